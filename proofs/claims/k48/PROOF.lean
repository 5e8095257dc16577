import PyProof.Rows.All
import Wide.All
import OpenK.AllK
import Wide.FinOn
import Lean
import PyProof.EqAt
import PyProof.EqKinds
import PyProof.TupleCall
import KE.KSortAsk
import KE.KSortTup
import PySem.Challenge.RW_driftwood_k48_whole_near_pairs
set_option linter.all false
set_option Elab.async false
set_option maxRecDepth 100000
set_option maxHeartbeats 4000000
noncomputable section
abbrev Qa:=@PySem.Str.ofString
abbrev Qb:=@PySem.W.Frag
abbrev Qc:=@PySem.wpAny_bind
abbrev Qd:=@PySem.wpAny_pure
abbrev Qe:=@PySem.wpAny_mono
abbrev Qf:=@PySem.wpAny_field
abbrev Qg:=@PySem.Heap.get?_push_of_some
abbrev Qh:=@PySem.Heap.get?_push_size
abbrev Qi:=@PySem.Heap.lt_size
abbrev Qj:=@decide_eq_false
abbrev Qk:=@decide_eq_true
abbrev Ql:=@if_pos
abbrev Qm:=@if_neg
abbrev Qn:=@absurd
abbrev Qo:=@PySem.bootBuiltins
abbrev Qp:=@of_decide_eq_true
abbrev aC:=@List.length_map
abbrev ar:=@Nat.le_refl
abbrev aH:=@List.size_toArray
abbrev yad:=@Option.map_eq_some_iff
abbrev aI:=@Bool.and_eq_true
abbrev bf:=@List.length_append
abbrev yag:=@List.mem_cons
abbrev bC:=@List.mem_cons_of_mem
abbrev bh:=@List.mem_cons_self
abbrev cz:=@List.getElem?_eq_getElem
abbrev bS:=@List.getElem?_set_ne
abbrev bG:=@Nat.lt_of_lt_of_le
abbrev bw:=@List.append_assoc
abbrev cj:=@List.mem_of_getElem?
abbrev yao:=@List.getElem?_eq_some_iff
abbrev aM:=@Nat.le_trans
abbrev cM:=@List.mem_append_right
abbrev cw:=@Array.length_toList
abbrev bL:=@Option.bind_some
abbrev dF:=@List.take_of_length_le
abbrev cu:=@List.getElem?_map
abbrev dg:=@PySem.mem_of_lookup
abbrev cL:=@List.append_nil
abbrev gE:=@List.getElem?_append_right
abbrev yay:=@List.mem_iff_getElem?
abbrev bK:=@Nat.ne_of_lt
abbrev yaA:=@List.mem_append
abbrev yaB:=@List.mem_singleton
abbrev f6:=@Nat.add_sub_cancel_left
abbrev dG:=@List.length_cons
abbrev cT:=@List.map_cons
abbrev d5:=@List.not_mem_nil
abbrev gF:=@List.take_append_drop
abbrev fB:=@Bool.false_eq_true
abbrev eL:=@List.length_take
abbrev iV:=@PyProof.Rows.callWith_type1
abbrev dZ:=@Bool.or_eq_true
abbrev cZ:=@Nat.zero_add
abbrev fZ:=@Bool.false_ne_true
abbrev yaN:=@List.mem_map
abbrev yaO:=@PyProof.Rows.slot_tuple_getitem
abbrev fY:=@List.flatMap_cons
abbrev jq:=@List.getElem?_append_left
abbrev iH:=@List.mem_append_left
abbrev iU:=@Array.getElem?_toList
abbrev fX:=@Option.some.inj
abbrev iG:=@List.flatMap_append
abbrev kE:=@List.getD_eq_getElem?_getD
abbrev kD:=@List.drop_eq_getElem_cons
abbrev hJ:=@List.length_drop
abbrev fA:=@Nat.lt_irrefl
abbrev fy:=@List.all_cons
abbrev fb:=@Nat.le_of_lt
abbrev kA:=@List.getElem?_replicate
abbrev iF:=@List.getElem_mem
abbrev kz:=@List.getElem?_set_self
abbrev lW:=@Array.getElem?_eq_getElem
abbrev iE:=@List.nil_append
abbrev fx:=@Nat.zero_le
abbrev iT:=@List.lookup_cons
abbrev kv:=@List.mem_of_mem_drop
abbrev ku:=@List.mem_of_mem_take
abbrev ybk:=@List.length_eq_zero_iff
abbrev g9:=@List.sum_cons
abbrev jo:=@List.flatten_cons
abbrev kr:=@List.replicate_succ
abbrev ybo:=@List.pairwise_cons
abbrev nJ:=@PySem.slot_listiter_next
abbrev iD:=@Nat.ne_of_gt
abbrev lV:=@List.reverse_append
abbrev lU:=@List.length_zipWith
abbrev jn:=@List.take_zero
abbrev jl:=@Bool.and_false
abbrev ybv:=@List.nodup_cons
abbrev kq:=@PySem.W.kia_one
abbrev ko:=@Option.map_some
abbrev lT:=@List.reverse_cons
abbrev jk:=@Bool.and_true
abbrev ma:=@Int.toNat_natCast
abbrev nS:=@Nat.pow_le_pow_right
abbrev kC:=@List.drop_zero
abbrev nR:=@List.filterMap_cons
abbrev nQ:=@List.length_reverse
abbrev qS:=@PySem.F.args_tuple_add_2
abbrev qR:=@List.getElem?_cons_succ
abbrev lZ:=@List.of_mem_zip
abbrev qQ:=@PySem.F.entry_tuple_add
abbrev lY:=@List.foldl_cons
abbrev qP:=@PySem.F.plainAttrs_list
abbrev qO:=@PySem.F.slot_tuple_add
abbrev qN:=@List.length_replicate
abbrev qM:=@List.length_singleton
abbrev kB:=@Int.le_trans
abbrev nO:=@List.zipIdx_cons
abbrev ybQ:=@List.mem_filter
abbrev nN:=@Int.ediv_nonneg
abbrev qL:=@List.map_congr_left
abbrev nM:=@Nat.min_le_left
abbrev uZ:=@List.exists_cons_of_ne_nil
abbrev ybV:=@Int.natAbs_eq_zero
abbrev lX:=@List.all_nil
abbrev nL:=@Bool.false_and
abbrev nK:=@Int.mul_le_mul
abbrev qK:=@Bool.not_eq_true'
abbrev qJ:=@List.take_add_one
abbrev qI:=@Option.some.injEq
abbrev ycc:=@List.nodup_append
abbrev lS:=@Int.le_refl
abbrev lR:=@Prod.mk.inj
abbrev qH:=@List.cons_append
abbrev nI:=@Nat.sub_self
abbrev nH:=@Nat.succ_mul
abbrev qG:=@List.length_nil
abbrev qF:=@List.forIn_cons
abbrev nG:=@Nat.succ.inj
abbrev nF:=@Nat.log2_lt
namespace L2
open PySem PySem.Spec PyProof.Rows
noncomputable def fQ (s:Stmt):Arguments:=match s with
 | .FunctionDef _ a _ _ _ _ _ _ _ _=>a
 | _=>{ posonlyargs:=[],args:=[],vararg:=none,kwonlyargs:=[],kw_defaults:=[],kwarg:=none,defaults:=[] }
noncomputable def bT (s:Stmt):List Stmt:=match s with
 | .FunctionDef _ _ b _ _ _ _ _ _ _=>b
 | _=>[]
noncomputable def ay (s:Stmt):Scope:=match s with
 | .FunctionDef _ _ _ _ _ _ sc _ _ _=>sc
 | _=>{ kind:=.function,names:=[],isGenerator:=false,isCoroutine:=false }
end L2
namespace Dw.K48
open PySem L2
open PySem.W (nsIn fnOf codeIn keepIn findIn mg_of mg_none_of Frag)
def aq (i:Nat):Stmt:=PySem.Challenge.pw_driftwood_k48_whole_near_pairs.main.body.getD i (.Pass ⟨0,0,0,0⟩)
noncomputable def mA:Str:="driftwood.boxes"
noncomputable def mB:Str:="driftwood.swaths"
noncomputable def mC:Str:="driftwood.things"
noncomputable def mD:Str:="driftwood.pages"
noncomputable def mE:Str:="driftwood.wants"
noncomputable def mF:Str:="driftwood.join"
noncomputable def mG:Str:="law_driftwood_k48_whole_near_pairs"
noncomputable def en (P:Params) (n:Str) (t:Tok) (v:Value):DictEntry:=⟨PyData.keyHash P n,.str n t,v⟩
def er (P:Params) (n:Str) (t:Tok) (a:Nat):DictEntry:=en P n t (.ref a)
noncomputable def dc (es:List DictEntry) (n:Nat):Obj:={ cls:=.type "dict",data:=.dict es.toArray n }
def fo (n q:Str) (s:Stmt) (m:Str) (t:Tok) (c:Nat):Obj:={ cls:=.type "function",data:=.func (fnOf n q (fQ s) (bT s) (ay s) .none .none .none (.str m t) none (.ref c) .none) }
def AO (n q:Str) (s:Stmt) (m:Str) (t:Tok) (c d:Nat):Obj:={ cls:=.type "function",data:=.func (fnOf n q (fQ s) (bT s) (ay s) (.ref d) .none .none (.str m t) none (.ref c) .none) }
noncomputable def co (n q:Str) (t u x:Tok) (a b c d e r f s:Nat) (g h i:Value) (j k:Nat) (y:Tok):Obj:={ cls:=.type "code",data:=.fields #[.str n t,.str q u,.str "/claim/cut.py" x,.int a 0,.int b 0,.int c 0,.int d 0,.int e 0,.ref r,.bool true,.int f 0,.ref s,.none,g,h,i,.int j 0,.int k 0,.str "/claim/cut.py" y] }
def ca (n q:Str) (t a b r j:Nat):Obj:=co n q t (t+1) (t+2) a b 0 0 3 r 181 (r+1) (.ref (r+2)) (.ref (r+3)) (.ref (r+4)) j a (j+1)
def cn (n q:Str) (t a b r j:Nat):Obj:=co n q t (t+1) (t+2) a b 0 0 3 r 181 (r+1) .none .none (.ref (r+2)) j a (j+1)
def heap (P:Params):Frag:=(nat_lit 3,dc (en P "__name__" 165 (.str ("law_driftwood_k48_whole_near_pairs") 416)::en P "__doc__" 166 .none::en P "__package__" 167 .none::en P "__loader__" 168 (.builtin "__main__.__loader__#opaque")::en P "__spec__" 169 .none::er P "__annotations__" 170 6::er P "__builtins__" 171 4::en P "__file__" 173 (.str ("/claim/cut.py") 172)::en P "__cached__" 174 .none::er P "side_gap" 196 21::er P "box_gap" 202 26::er P "side_at" 212 33::er P "frame_at" 218 38::er P "thing_handle" 227 45::er P "thing_swath" 234 52::er P "thing_box" 242 59::er P "told_cover" 249 66::er P "told_heart" 256 73::er P "is_leaf" 265 80::er P "page_told" 272 87::er P "page_parts" 279 94::er P "things_in" 288 101::er P "cover_at" 298 108::er P "heart_at" 306 115::er P "parts_or_itself" 314 120::er P "places_behind" 320 125::er P "join_cut" 333 132::er P "join_paper" 339 137::er P "is_open_leaves" 347 144::er P "boxes_of" 353 149::er P "gaps_of_leaves" 359 154::er P "is_apart" 369 161::er P "is_whole_near" 379 168::er P "pairs_word" 389 175::er P "pairs_of_whole" 395 180::er P "pairs_of_rows" 401 185::er P "near_pairs" 415 193::er P "_law_cell_at" 425 200::er P "_law_alike" 434 207::er P "_law_draw" 443 214::er P "_law_thing" 464 221::er P "_law_told" 470 226::er P "_law_cuts" 476 231::er P "_law_tree" 482 236::er P "_law_two_rows" 488 241::er P "_law_frame_at" 494 246::er P "_law_gap" 506 253::er P "_law_beat" 513 260::er P "_law_far" 527 267::er P "_law_due" 533 272::er P "law" 551 279::[]) 51) ::
 (nat_lit 4,{ cls:=.type "module",dict:=some 0,data:=.plain }) ::
 (nat_lit 20,ca "side_gap" "side_gap" 189 2 2 15 194) ::
 (nat_lit 21,fo "side_gap" "side_gap" (aq 1) mA 187 20) ::
 (nat_lit 25,cn "box_gap" "box_gap" 197 4 2 22 200) ::
 (nat_lit 26,fo "box_gap" "box_gap" (aq 2) mA 187 25) ::
 (nat_lit 32,ca "side_at" "side_at" 205 8 2 27 210) ::
 (nat_lit 33,fo "side_at" "side_at" (aq 4) mB 203 32) ::
 (nat_lit 37,cn "frame_at" "frame_at" 213 10 2 34 216) ::
 (nat_lit 38,fo "frame_at" "frame_at" (aq 5) mB 203 37) ::
 (nat_lit 44,ca "thing_handle" "thing_handle" 221 13 1 39 225) ::
 (nat_lit 45,fo "thing_handle" "thing_handle" (aq 7) mC 219 44) ::
 (nat_lit 51,ca "thing_swath" "thing_swath" 228 15 1 46 232) ::
 (nat_lit 52,fo "thing_swath" "thing_swath" (aq 8) mC 219 51) ::
 (nat_lit 58,ca "thing_box" "thing_box" 235 17 2 53 240) ::
 (nat_lit 59,fo "thing_box" "thing_box" (aq 9) mC 219 58) ::
 (nat_lit 65,ca "told_cover" "told_cover" 243 19 1 60 247) ::
 (nat_lit 66,fo "told_cover" "told_cover" (aq 10) mC 219 65) ::
 (nat_lit 72,ca "told_heart" "told_heart" 250 21 1 67 254) ::
 (nat_lit 73,fo "told_heart" "told_heart" (aq 11) mC 219 72) ::
 (nat_lit 79,ca "is_leaf" "is_leaf" 259 24 1 74 263) ::
 (nat_lit 80,fo "is_leaf" "is_leaf" (aq 13) mD 257 79) ::
 (nat_lit 86,ca "page_told" "page_told" 266 26 1 81 270) ::
 (nat_lit 87,fo "page_told" "page_told" (aq 14) mD 257 86) ::
 (nat_lit 93,ca "page_parts" "page_parts" 273 28 1 88 277) ::
 (nat_lit 94,fo "page_parts" "page_parts" (aq 15) mD 257 93) ::
 (nat_lit 100,ca "things_in" "things_in" 280 30 1 95 286) ::
 (nat_lit 101,fo "things_in" "things_in" (aq 16) mD 257 100) ::
 (nat_lit 107,ca "cover_at" "cover_at" 291 38 2 102 296) ::
 (nat_lit 108,fo "cover_at" "cover_at" (aq 18) mE 289 107) ::
 (nat_lit 114,ca "heart_at" "heart_at" 299 40 2 109 304) ::
 (nat_lit 115,fo "heart_at" "heart_at" (aq 19) mE 289 114) ::
 (nat_lit 119,cn "parts_or_itself" "parts_or_itself" 309 43 2 116 312) ::
 (nat_lit 120,fo "parts_or_itself" "parts_or_itself" (aq 21) mF 307 119) ::
 (nat_lit 124,cn "places_behind" "places_behind" 315 47 1 121 318) ::
 (nat_lit 125,fo "places_behind" "places_behind" (aq 22) mF 307 124) ::
 (nat_lit 131,ca "join_cut" "join_cut" 321 55 3 126 331) ::
 (nat_lit 132,fo "join_cut" "join_cut" (aq 23) mF 307 131) ::
 (nat_lit 136,cn "join_paper" "join_paper" 334 65 1 133 337) ::
 (nat_lit 137,fo "join_paper" "join_paper" (aq 24) mF 307 136) ::
 (nat_lit 143,ca "is_open_leaves" "is_open_leaves" 340 67 2 138 345) ::
 (nat_lit 144,fo "is_open_leaves" "is_open_leaves" (aq 25) mF 307 143) ::
 (nat_lit 148,cn "boxes_of" "boxes_of" 348 69 2 145 351) ::
 (nat_lit 149,fo "boxes_of" "boxes_of" (aq 26) mF 307 148) ::
 (nat_lit 153,cn "gaps_of_leaves" "gaps_of_leaves" 354 71 3 150 357) ::
 (nat_lit 154,fo "gaps_of_leaves" "gaps_of_leaves" (aq 27) mF 307 153) ::
 (nat_lit 160,ca "is_apart" "is_apart" 360 77 4 155 367) ::
 (nat_lit 161,fo "is_apart" "is_apart" (aq 28) mF 307 160) ::
 (nat_lit 167,ca "is_whole_near" "is_whole_near" 370 81 4 162 377) ::
 (nat_lit 168,fo "is_whole_near" "is_whole_near" (aq 29) mF 307 167) ::
 (nat_lit 174,ca "pairs_word" "pairs_word" 380 83 4 169 387) ::
 (nat_lit 175,fo "pairs_word" "pairs_word" (aq 30) mF 307 174) ::
 (nat_lit 179,cn "pairs_of_whole" "pairs_of_whole" 390 87 2 176 393) ::
 (nat_lit 180,fo "pairs_of_whole" "pairs_of_whole" (aq 31) mF 307 179) ::
 (nat_lit 184,cn "pairs_of_rows" "pairs_of_rows" 396 94 3 181 399) ::
 (nat_lit 185,fo "pairs_of_rows" "pairs_of_rows" (aq 32) mF 307 184) ::
 (nat_lit 186,{ cls:=.type "tuple",data:=.seq #[.int 0 402] }) ::
 (nat_lit 192,ca "near_pairs" "near_pairs" 403 103 4 187 413) ::
 (nat_lit 193,AO "near_pairs" "near_pairs" (aq 33) mF 307 192 186) ::
 (nat_lit 199,ca "_law_cell_at" "_law_cell_at" 418 107 2 194 423) ::
 (nat_lit 200,fo "_law_cell_at" "_law_cell_at" (aq 35) mG 416 199) ::
 (nat_lit 206,ca "_law_alike" "_law_alike" 426 111 2 201 432) ::
 (nat_lit 207,fo "_law_alike" "_law_alike" (aq 36) mG 416 206) ::
 (nat_lit 213,ca "_law_draw" "_law_draw" 435 124 3 208 441) ::
 (nat_lit 214,fo "_law_draw" "_law_draw" (aq 37) mG 416 213) ::
 (nat_lit 220,ca "_law_thing" "_law_thing" 444 126 5 215 462) ::
 (nat_lit 221,fo "_law_thing" "_law_thing" (aq 38) mG 416 220) ::
 (nat_lit 225,cn "_law_told" "_law_told" 465 141 1 222 468) ::
 (nat_lit 226,fo "_law_told" "_law_told" (aq 39) mG 416 225) ::
 (nat_lit 230,cn "_law_cuts" "_law_cuts" 471 159 3 227 474) ::
 (nat_lit 231,fo "_law_cuts" "_law_cuts" (aq 40) mG 416 230) ::
 (nat_lit 235,cn "_law_tree" "_law_tree" 477 164 3 232 480) ::
 (nat_lit 236,fo "_law_tree" "_law_tree" (aq 41) mG 416 235) ::
 (nat_lit 240,cn "_law_two_rows" "_law_two_rows" 483 179 3 237 486) ::
 (nat_lit 241,fo "_law_two_rows" "_law_two_rows" (aq 42) mG 416 240) ::
 (nat_lit 245,cn "_law_frame_at" "_law_frame_at" 489 193 2 242 492) ::
 (nat_lit 246,fo "_law_frame_at" "_law_frame_at" (aq 43) mG 416 245) ::
 (nat_lit 252,ca "_law_gap" "_law_gap" 495 195 2 247 504) ::
 (nat_lit 253,fo "_law_gap" "_law_gap" (aq 44) mG 416 252) ::
 (nat_lit 259,ca "_law_beat" "_law_beat" 507 201 1 254 511) ::
 (nat_lit 260,fo "_law_beat" "_law_beat" (aq 45) mG 416 259) ::
 (nat_lit 266,ca "_law_far" "_law_far" 514 207 4 261 525) ::
 (nat_lit 267,fo "_law_far" "_law_far" (aq 46) mG 416 266) ::
 (nat_lit 271,cn "_law_due" "_law_due" 528 217 4 268 531) ::
 (nat_lit 272,fo "_law_due" "_law_due" (aq 47) mG 416 271) ::
 (nat_lit 278,ca "law" "law" 534 226 1 273 549) ::
 (nat_lit 279,fo "law" "law" (aq 48) mG 416 278)::[]
def c0:Stmt:=aq 0
def c1:Stmt:=aq 1
def c2:Stmt:=aq 2
def c3:Stmt:=aq 3
def c4:Stmt:=aq 4
def c5:Stmt:=aq 5
def c6:Stmt:=aq 6
def c7:Stmt:=aq 7
def c8:Stmt:=aq 8
def c9:Stmt:=aq 9
def Bq:Stmt:=aq 10
def Bp:Stmt:=aq 11
def c12:Stmt:=aq 12
def Bo:Stmt:=aq 13
def Bn:Stmt:=aq 14
def Bm:Stmt:=aq 15
def qq:Stmt:=aq 16
def c17:Stmt:=aq 17
def Bl:Stmt:=aq 18
def kf:Stmt:=aq 19
def c20:Stmt:=aq 20
def Bk:Stmt:=aq 21
def Bj:Stmt:=aq 22
def qp:Stmt:=aq 23
def Bi:Stmt:=aq 24
def Bh:Stmt:=aq 25
def Bg:Stmt:=aq 26
def Bf:Stmt:=aq 27
def Be:Stmt:=aq 28
def Bc:Stmt:=aq 29
def Bb:Stmt:=aq 30
def Ba:Stmt:=aq 31
def A9:Stmt:=aq 32
def c33:Stmt:=aq 33
def c34:Stmt:=aq 34
def A8:Stmt:=aq 35
def A7:Stmt:=aq 36
def A6:Stmt:=aq 37
def A5:Stmt:=aq 38
def A4:Stmt:=aq 39
def A3:Stmt:=aq 40
def A2:Stmt:=aq 41
def A1:Stmt:=aq 42
def A0:Stmt:=aq 43
def AZ:Stmt:=aq 44
def AY:Stmt:=aq 45
def AX:Stmt:=aq 46
def AW:Stmt:=aq 47
def AV:Stmt:=aq 48
def pw:Program:={ PySem.Challenge.pw_driftwood_k48_whole_near_pairs with main:={ PySem.Challenge.pw_driftwood_k48_whole_near_pairs.main with body:=c0::c1::c2::c3::c4::c5::c6::c7::c8::c9::Bq::Bp::c12::Bo::Bn::Bm::qq::c17::Bl::kf::c20::Bk::Bj::qp::Bi::Bh::Bg::Bf::Be::Bc::Bb::Ba::A9::c33::c34::A8::A7::A6::A5::A4::A3::A2::A1::A0::AZ::AY::AX::AW::AV::[] } }
def lw:PySem.W.OpenLaw:={ PySem.Challenge.rw_driftwood_k48_whole_near_pairs with prog:=pw }
theorem lw_eq:PySem.Challenge.rw_driftwood_k48_whole_near_pairs=lw:=by kernel_rfl
end Dw.K48
section
open PySem PySem.W PyProof.Rows
namespace Dw.K48
def hk:Hook:=kmHook heap (3::4::20::21::25::26::32::33::37::38::44::45::51::52::58::59::65::66::72::73::79::80::86::87::93::94::100::101::107::108::114::115::119::120::124::125::131::132::136::137::143::144::148::149::153::154::160::161::167::168::174::175::179::180::184::185::186::192::193::199::200::206::207::213::214::220::221::225::226::230::231::235::236::240::241::245::246::252::253::259::260::266::267::271::272::278::279::[]) (λ_=>by kernel_rfl) (188::[])
noncomputable def lo:List Str:="near_pairs"::[]
noncomputable def q:Program:={ lw.prog with main:={ lw.prog.main with body:=c1::c2::c4::c5::c7::c8::c9::Bq::Bp::Bo::Bn::Bm::qq::Bl::kf::Bk::Bj::qp::Bi::Bh::Bg::Bf::Be::Bc::Bb::Ba::A9::A8::A7::A6::A5::A4::A3::A2::A1::A0::AZ::AY::AX::AW::AV::[] } }
theorem hl:LeftO lw.row.toRowW.prog q lo (λs=>xlAt q [] s&&recOk (RowW.records lw.row.toRowW) s) (Hook.obs hk) (Hook.val hk) 4000:=λw=>by kernel_rfl
theorem said:lw.wellSaid=true:=by kernel_rfl
end Dw.K48
end
namespace Dw.So
open PySem PyProof.Rows
noncomputable def fR:Bool->Keyed->Array Keyed->Nat->Nat->Nat->StateT SortSt Sem (Option Nat):=sortPriv% PySem.Builtin.gallop
noncomputable def kS (left:Bool) (key:Keyed) (arr:Array Keyed) (base i:Nat):StateT SortSt Sem (Option Bool):=do
 let x <-elem' arr (base+i)
 if left then lt' x key else return (<-lt' key x).map (!·)
theorem qGN (left:Bool) (key:Keyed) (arr:Array Keyed) (base n hint:Nat):fR left key arr base n hint=(do
 let mut lastofs:=0
 let mut ofs:=1
 let mut lo:=0
 let mut hi:=0
 let some right <-kS left key arr base hint|return none
 if right then
  let maxofs:=n - hint
  for _ in [0:n] do
   if ofs ≥ maxofs then break
   let some more <-kS left key arr base (hint+ofs)|return none
   if !more then break
   lastofs:=ofs
   ofs:=2 * ofs+1
  lo:=hint+lastofs+1
  hi:=hint+min ofs maxofs
 else
  let maxofs:=hint+1
  for _ in [0:n] do
   if ofs ≥ maxofs then break
   let some found <-kS left key arr base (hint - ofs)|return none
   if found then break
   lastofs:=ofs
   ofs:=2 * ofs+1
  lo:=hint+1 - min ofs maxofs
  hi:=hint - lastofs
 for _ in [0:n] do
  if lo ≥ hi then break
  let m:=lo+(hi - lo) / 2
  let some more <-kS left key arr base m|return none
  if more then lo:=m+1 else hi:=m
 return some hi):=rfl
section
variable {prog:Program}{w:World}{A:Around}{E:Value->Shared->Prop}{s:Shared}
abbrev F3:=Nat->Option (Option Nat)×Nat×Nat->StateT SortSt Sem (ForInStep (Option (Option Nat)×Nat×Nat))
theorem qMi {b:Nat->Bool}{n:Nat}{f:F3}{st:SortSt}{Q:Option (Option Nat)×Nat×Nat->SortSt->Prop}(mono:∀i j,i<=j->j<n->b j=true->b i=true) (mono':∀i j,i<=j->j<n->b i=false->b j=false)
  (stop:∀x lo hi,lo ≥ hi->f x (none,lo,hi)=pure (.done (none,lo,hi)))
  (step:∀x lo hi (R:ForInStep (Option (Option Nat)×Nat×Nat)->SortSt->Prop),lo<hi->hi<=n->R (if b (lo+(hi - lo) / 2)=true then .yield (none,lo+(hi - lo) / 2+1,hi) else .yield (none,lo,lo+(hi - lo) / 2)) st->wpS (model prog w) A E s (f x (none,lo,hi)) R st)
  {lo hi:Nat} (h1:lo<=hi) (h2:hi<=n) (h3:∀i,i<lo->b i=true) (h4:∀i,hi<=i->i<n->b i=false)
  (h:∀l k,k<=n->(∀i,i<k->b i=true)->(∀i,k<=i->i<n->b i=false)->Q (none,l,k) st):wpS (model prog w) A E s (forIn [0:n] (none,lo,hi) f) Q st:=by
 refine wpS_forRange (I:=λx c st'=>st'=st/\∃l k,c=(none,l,k)/\l<=k/\k<=n/\k - l<=n - x/\(∀i,i<l->b i=true)/\∀i,k<=i->i<n->b i=false) ?_ ?_ ⟨rfl,lo,hi,rfl,h1,h2,by omega,h3,h4⟩
 ·rintro x c st' _ hx ⟨rfl,l,k,rfl,g1,g2,g3,g4,g5⟩
  by_cases hge:l ≥ k
  ·rw [stop x l k hge]
   exact wpS_pure (h l k g2 (λi hi=>g4 i (by omega)) g5)
  ·refine step x l k _ (by omega) g2 ?_
   cases e:b (l+(k - l) / 2) with
   | true =>
    rw [Ql rfl]
    exact⟨rfl,_,_,rfl,by omega,g2,by omega,λi hi=>mono i _ (by omega) (by omega) e,g5⟩
   | false =>
    rw [Qm (by simp)]
    exact⟨rfl,_,_,rfl,by omega,by omega,by omega,g4,λi hi hn=>mono' _ i hi hn e⟩
 ·rintro c st' ⟨rfl,l,k,rfl,g1,g2,g3,g4,g5⟩
  exact h l k g2 (λi hi=>g4 i (by omega)) g5
theorem qGy {left:Bool}{key:Keyed}{arr:Array Keyed}{base n hint:Nat}{st:SortSt}{b:Nat->Bool}{Q:Option Nat->SortSt->Prop}(hh:hint<n)
  (hb:∀(i:Nat) (Q:Option Bool->SortSt->Prop),i<n->Q (some (b i)) st->wpS (model prog w) A E s (kS left key arr base i) Q st)
  (mono:∀i j,i<=j->j<n->b j=true->b i=true)
  (h:∀k,k<=n->(∀i,i<k->b i=true)->(∀i,k<=i->i<n->b i=false)->Q (some k) st):wpS (model prog w) A E s (fR left key arr base n hint) Q st:=by
 have mono':∀i j,i<=j->j<n->b i=false->b j=false:=λi j h1 h2 h3=>by
  cases e:b j with
  | false=>rfl
  | true=>rw [mono i j h1 h2 e] at h3;cases h3
 rw [qGN]
 refine wpS_bind (hb hint _ hh ?_)
 dsimp only
 have fin:∀{f:F3} {g:Option (Option Nat)×Nat×Nat->StateT SortSt Sem (Option Nat)} {lo hi:Nat},(∀x lo hi,lo ≥ hi->f x (none,lo,hi)=pure (.done (none,lo,hi))) ->
   (∀x lo hi (R:ForInStep (Option (Option Nat)×Nat×Nat)->SortSt->Prop),lo<hi->hi<=n->R (if b (lo+(hi - lo) / 2)=true then .yield (none,lo+(hi - lo) / 2+1,hi) else .yield (none,lo,lo+(hi - lo) / 2)) st->wpS (model prog w) A E s (f x (none,lo,hi)) R st) ->
   (∀l k,g (none,l,k)=pure (some k))->lo<=hi->hi<=n->(∀i,i<lo->b i=true)->(∀i,hi<=i->i<n->b i=false)->wpS (model prog w) A E s (forIn [0:n] (none,lo,hi) f >>= g) Q st:=by
  intro f g lo hi stop step hg h1 h2 h3 h4
  refine wpS_bind (qMi mono mono' stop step h1 h2 h3 h4 λl k k1 k2 k3=>?_)
  rw [hg]
  exact wpS_pure (h k k1 k2 k3)
 cases hc:b hint with
 | true =>
  simp only [if_true]
  refine wpS_bind (wpS_mono (wpS_forRange (I:=λx c st'=>st'=st/\∃l o,c=(none,l,o)/\l<o/\x<o/\hint+l<n/\b (hint+l)=true)
   (Q:=λc st'=>st'=st/\∃l o,c=(none,l,o)/\l<o/\hint+l<n/\b (hint+l)=true/\(o<n - hint->b (hint+o)=false)) ?step ?fin ⟨rfl,0,1,rfl,by omega,by omega,hh,hc⟩) ?post)
  case fin =>
   rintro c st' ⟨rfl,l,o,rfl,g1,g2,g3,g4⟩
   exact⟨rfl,l,o,rfl,g1,g3,g4,λz=>by omega⟩
  case step =>
   rintro x c st' _ hx ⟨rfl,l,o,rfl,g1,g2,g3,g4⟩
   dsimp only
   by_cases hge:o ≥ n - hint
   ·rw [Ql hge]
    exact wpS_pure ⟨rfl,l,o,rfl,g1,g3,g4,λz=>by omega⟩
   ·rw [Qm hge]
    refine wpS_bind (hb (hint+o) _ (by omega) ?_)
    dsimp only
    cases e:b (hint+o) with
    | true =>
     rw [Qm (by simp)]
     exact wpS_pure ⟨rfl,o,2 * o+1,rfl,by omega,by omega,by omega,e⟩
    | false =>
     rw [Ql (by simp)]
     exact wpS_pure ⟨rfl,l,o,rfl,g1,g3,g4,λ_=>e⟩
  case post =>
   rintro c st' ⟨rfl,l,o,rfl,g1,g3,g4,g5⟩
   dsimp only
   refine fin (λx lo hi z=>Ql z) (λx lo hi R z1 z2 z3=>?_) (λl k=>rfl) (by omega) (by omega) (λi hi=>mono i _ (by omega) g3 g4) (λi hi hn=>mono' (hint+o) i (by omega) hn (g5 (by omega)))
   dsimp only
   rw [Qm (by omega)]
   refine wpS_bind (hb _ _ (by omega) ?_)
   dsimp only
   cases e:b (lo+(hi - lo) / 2) with
   | true=>rw [e] at z3;exact wpS_pure z3
   | false=>rw [e] at z3;exact wpS_pure z3
 | false =>
  simp only [fB,if_false]
  refine wpS_bind (wpS_mono (wpS_forRange (I:=λx c st'=>st'=st/\∃l o,c=(none,l,o)/\l<o/\x<o/\l<=hint/\b (hint - l)=false)
   (Q:=λc st'=>st'=st/\∃l o,c=(none,l,o)/\l<o/\l<=hint/\b (hint - l)=false/\(o<hint+1->b (hint - o)=true)) ?step ?fin ⟨rfl,0,1,rfl,by omega,by omega,by omega,hc⟩) ?post)
  case fin =>
   rintro c st' ⟨rfl,l,o,rfl,g1,g2,g3,g4⟩
   exact⟨rfl,l,o,rfl,g1,g3,g4,λz=>by omega⟩
  case step =>
   rintro x c st' _ hx ⟨rfl,l,o,rfl,g1,g2,g3,g4⟩
   dsimp only
   by_cases hge:o ≥ hint+1
   ·rw [Ql hge]
    exact wpS_pure ⟨rfl,l,o,rfl,g1,g3,g4,λz=>by omega⟩
   ·rw [Qm hge]
    refine wpS_bind (hb (hint - o) _ (by omega) ?_)
    dsimp only
    cases e:b (hint - o) with
    | true =>
     rw [Ql rfl]
     exact wpS_pure ⟨rfl,l,o,rfl,g1,g3,g4,λ_=>e⟩
    | false =>
     rw [Qm (by simp)]
     exact wpS_pure ⟨rfl,o,2 * o+1,rfl,by omega,by omega,by omega,e⟩
  case post =>
   rintro c st' ⟨rfl,l,o,rfl,g1,g3,g4,g5⟩
   dsimp only
   refine fin (λx lo hi z=>Ql z) (λx lo hi R z1 z2 z3=>?_) (λl k=>rfl) (by omega) (by omega) (λi hi=>mono i (hint - o) (by omega) (by omega) (g5 (by omega))) (λi hi hn=>mono' _ i hi hn g4)
   dsimp only
   rw [Qm (by omega)]
   refine wpS_bind (hb _ _ (by omega) ?_)
   dsimp only
   cases e:b (lo+(hi - lo) / 2) with
   | true=>rw [e] at z3;exact wpS_pure z3
   | false=>rw [e] at z3;exact wpS_pure z3
end
end Dw.So
namespace Dw.So
open PySem PyProof.Rows
noncomputable def iP:Nat->StateT SortSt Sem Unit:=sortPriv% PySem.Builtin.setMinGallop
noncomputable def p0:Array Keyed->Array Keyed->StateT SortSt Sem (Array Keyed):=sortPriv% PySem.Builtin.mergeLo
noncomputable abbrev bM (st:SortSt) (g:Nat):SortSt:=SortSt.mk' (kindOf st) (arrOf st) (pendingOf st) g (failedOf st)
theorem qd (g:Nat):iP g=modify λs=>bM s g:=rfl
theorem qFn (a b:Array Keyed):p0 a b=(do
 rule "list.sort.merge-lo"
 let total:=a.size+b.size
 let done (out:Array Keyed) (ia ib:Nat):=out++a.extract ia a.size++b.extract ib b.size
 let lastOfA (out:Array Keyed) (ia ib:Nat):=out++b.extract ib b.size++a.extract ia a.size
 let mut out:Array Keyed:=#[<-elem' b 0]
 let mut ia:=0
 let mut ib:=1
 if ib == b.size then return done out ia ib
 if ia+1 == a.size then return lastOfA out ia ib
 let mut minGallop:=gallopOf (<-get)
 for _ in [0:total] do
  let mut acount:=0
  let mut bcount:=0
  for _ in [0:total] do
   let some bWins <-lt' (<-elem' b ib) (<-elem' a ia)|return done out ia ib
   if bWins then
    out:=out.push (<-elem' b ib);ib:=ib+1;bcount:=bcount+1;acount:=0
    if ib == b.size then return done out ia ib
    if bcount ≥ minGallop then break
   else
    out:=out.push (<-elem' a ia);ia:=ia+1;acount:=acount+1;bcount:=0
    if ia+1 == a.size then return lastOfA out ia ib
    if acount ≥ minGallop then break
  rule "list.sort.gallop"
  minGallop:=minGallop+1
  for _ in [0:total] do
   if minGallop > 1 then minGallop:=minGallop - 1
   iP minGallop
   let some k <-fR false (<-elem' b ib) a ia (a.size - ia) 0|return done out ia ib
   acount:=k
   if k > 0 then
    out:=out++a.extract ia (ia+k);ia:=ia+k
    if ia+1 == a.size then return lastOfA out ia ib
    if ia == a.size then return done out ia ib
   out:=out.push (<-elem' b ib);ib:=ib+1
   if ib == b.size then return done out ia ib
   let some k <-fR true (<-elem' a ia) b ib (b.size - ib) 0|return done out ia ib
   bcount:=k
   if k > 0 then
    out:=out++b.extract ib (ib+k);ib:=ib+k
    if ib == b.size then return done out ia ib
   out:=out.push (<-elem' a ia);ia:=ia+1
   if ia+1 == a.size then return lastOfA out ia ib
   if acount<7&&bcount<7 then break
  minGallop:=minGallop+1
  iP minGallop
 unsupported "internal:list.sort.merge-bound"):=rfl
section
variable {prog:Program}{w:World}{A:Around}{E:Value->Shared->Prop}{s:Shared}
def cD (prog:Program) (w:World) (A:Around) (E:Value->Shared->Prop) (s:Shared) (kd:SortKind) (ρ:Keyed->Nat) (P:Keyed->Prop):Prop:=
 ∀(x y:Keyed) (st:SortSt) (Q:Option Bool->SortSt->Prop),P x->P y->kindOf st=kd->Q (some (decide (ρ x<ρ y))) st->wpS (model prog w) A E s (lt' x y) Q st
theorem cI {arr:Array Keyed}{i:Nat}{x:Keyed}{st:SortSt}{Q:Keyed->SortSt->Prop}(e:arr.toList[i]?=some x) (h:Q x st):wpS (model prog w) A E s (elem' arr i) Q st:=by
 have e:arr[i]?=some x:=by rw [<-iU];exact e
 rw [elem'_eq,e]
 exact wpS_pure h
variable {kd:SortKind}{ρ:Keyed->Nat}{P:Keyed->Prop}
abbrev Up (ρ:Keyed->Nat) (l:List Keyed):Prop:=l.Pairwise λx y=>ρ x<=ρ y
theorem jc {l:List Keyed}(h:Up ρ l) {i j:Nat}{x y:Keyed}(hij:i<=j) (hx:l[i]?=some x) (hy:l[j]?=some y):ρ x<=ρ y:=by
 rcases Nat.lt_or_ge i j with h'|h'
 ·obtain⟨hi,rfl⟩:=yao.mp hx
  obtain⟨hj,rfl⟩:=yao.mp hy
  exact List.pairwise_iff_getElem.mp h i j hi hj h'
 ·have:i=j:=by omega
  subst this
  rw [hx] at hy
  cases hy
  exact ar _
theorem mW {l:List Keyed}(h:Up ρ l) {i:Nat}{x y:Keyed}(hx:l[i]?=some x) (hy:y∈l.drop i):ρ x<=ρ y:=by
 obtain⟨j,hj⟩:=yay.mp hy
 rw [List.getElem?_drop] at hj
 exact jc h (Nat.le_add_right _ _) hx hj
theorem lj {left:Bool}{key:Keyed}{arr:Array Keyed}{base n hint:Nat}{st:SortSt}{Q:Option Nat->SortSt->Prop}(hlt:cD prog w A E s kd ρ P) (hk:kindOf st=kd) (pk:P key) (pa:∀x∈arr.toList,P x)
  (hs:base+n<=arr.size) (up:∀i j x y,base<=i->i<=j->j<base+n->arr.toList[i]?=some x->arr.toList[j]?=some y->ρ x<=ρ y) (hh:hint<n)
  (h:∀k,k<=n->(∀i x,i<k->arr.toList[base+i]?=some x->if left then ρ x<ρ key else ρ x<=ρ key)->(∀i x,k<=i->i<n->arr.toList[base+i]?=some x->if left then ρ key<=ρ x else ρ key<ρ x)->Q (some k) st) :
  wpS (model prog w) A E s (fR left key arr base n hint) Q st:=by
 have get:∀i,i<n->∃x,arr.toList[base+i]?=some x:=λi hi=>⟨_,cz (by rw [cw];omega)⟩
 let b:Nat->Bool:=λi=>match arr.toList[base+i]? with|some x=>if left then decide (ρ x<ρ key) else !decide (ρ key<ρ x)|none=>false
 have hbx:∀i x,arr.toList[base+i]?=some x->b i=if left then decide (ρ x<ρ key) else !decide (ρ key<ρ x):=λi x e=>by show (match arr.toList[base+i]? with|some x=>_|none=>_)=_;rw [e]
 refine qGy (b:=b) hh (λi Q hi hQ=>?_) (λi j hij hj hb=>?_) λk k1 k2 k3=>h k k1 (λi x hi hx=>?_) λi x hi hn hx=>?_
 ·obtain⟨x,hx⟩:=get i hi
  have px:P x:=pa x (cj hx)
  unfold kS
  refine wpS_bind (cI hx ?_)
  rw [hbx i x hx] at hQ
  cases left with
  | true =>
   simp only [if_true] at hQ ⊢
   exact hlt x key st _ px pk hk hQ
  | false =>
   simp only [fB,if_false] at hQ ⊢
   exact wpS_bind (hlt key x st _ pk px hk (wpS_pure hQ))
 ·obtain⟨x,hx⟩:=get i (by omega)
  obtain⟨y,hy⟩:=get j hj
  have:=up (base+i) (base+j) x y (by omega) (by omega) (by omega) hx hy
  rw [hbx j y hy] at hb
  rw [hbx i x hx]
  cases left with
  | true =>
   simp only [if_true,decide_eq_true_eq] at hb ⊢
   omega
  | false =>
   simp only [fB,if_false,qK,decide_eq_false_iff_not] at hb ⊢
   omega
 ·have:=k2 i hi
  rw [hbx i x hx] at this
  cases left with
  | true=>simpa using this
  | false=>simpa using this
 ·have:=k3 i hi hn
  rw [hbx i x hx] at this
  cases left with
  | true=>simpa using this
  | false=>simpa using this
structure Mg (ρ:Keyed->Nat) (la lb out:List Keyed) (ia ib:Nat):Prop where
 perm:(out++(la.drop ia++lb.drop ib)).Perm (la++lb)
 up:Up ρ out
 leA:∀x∈out,∀y∈la.drop ia,ρ x<=ρ y
 leB:∀x∈out,∀y∈lb.drop ib,ρ x<=ρ y
theorem eC {l m:List Keyed}(h1:Up ρ l) (h2:Up ρ m) (h:∀x∈l,∀y∈m,ρ x<=ρ y):Up ρ (l++m):=List.pairwise_append.mpr ⟨h1,h2,h⟩
theorem Mg.appA {la lb out l:List Keyed}{ia ib k:Nat}(h:Mg ρ la lb out ia ib) (ua:Up ρ la) (hl:la.drop ia=l++la.drop (ia+k)) (hb:∀x∈l,∀y∈lb.drop ib,ρ x<=ρ y):Mg ρ la lb (out++l) (ia+k) ib:=by
 have ud:Up ρ (l++la.drop (ia+k)):=by rw [<-hl];exact List.Pairwise.drop ua
 obtain⟨u1,u2,u3⟩:=List.pairwise_append.mp ud
 have sub:∀y∈l,y∈la.drop ia:=λy hy=>by rw [hl];exact iH _ hy
 have sub':∀y∈la.drop (ia+k),y∈la.drop ia:=λy hy=>by rw [hl];exact cM _ hy
 refine⟨?_,eC h.up u1 λx hx y hy=>h.leA x hx y (sub y hy),λx hx y hy=>?_,λx hx y hy=>?_⟩
 ·have:=h.perm
  rw [hl] at this
  simpa only [bw] using this
 ·rcases yaA.mp hx with hx|hx
  ·exact h.leA x hx y (sub' y hy)
  ·exact u3 x hx y hy
 ·rcases yaA.mp hx with hx|hx
  ·exact h.leB x hx y hy
  ·exact hb x hx y hy
theorem Mg.appB {la lb out l:List Keyed}{ia ib k:Nat}(h:Mg ρ la lb out ia ib) (ub:Up ρ lb) (hl:lb.drop ib=l++lb.drop (ib+k)) (ha:∀x∈l,∀y∈la.drop ia,ρ x<=ρ y):Mg ρ la lb (out++l) ia (ib+k):=by
 have ud:Up ρ (l++lb.drop (ib+k)):=by rw [<-hl];exact List.Pairwise.drop ub
 obtain⟨u1,u2,u3⟩:=List.pairwise_append.mp ud
 have sub:∀y∈l,y∈lb.drop ib:=λy hy=>by rw [hl];exact iH _ hy
 have sub':∀y∈lb.drop (ib+k),y∈lb.drop ib:=λy hy=>by rw [hl];exact cM _ hy
 refine⟨?_,eC h.up u1 λx hx y hy=>h.leB x hx y (sub y hy),λx hx y hy=>?_,λx hx y hy=>?_⟩
 ·refine List.Perm.trans ?_ h.perm
  rw [hl,bw]
  refine List.Perm.append_left _ ?_
  rw [<-bw,<-bw]
  exact List.Perm.append_right _ List.perm_append_comm
 ·rcases yaA.mp hx with hx|hx
  ·exact h.leA x hx y hy
  ·exact ha x hx y hy
 ·rcases yaA.mp hx with hx|hx
  ·exact h.leB x hx y (sub' y hy)
  ·exact u3 x hx y hy
def eJ (ρ:Keyed->Nat) (la lb r:List Keyed):Prop:=r.Perm (la++lb)/\Up ρ r
theorem Mg.endB {la lb out:List Keyed}{ia ib:Nat}(h:Mg ρ la lb out ia ib) (ua:Up ρ la) (e:lb.drop ib=[]):eJ ρ la lb (out++la.drop ia):=by
 have:=h.perm
 rw [e,cL] at this
 exact⟨this,eC h.up (List.Pairwise.drop ua) h.leA⟩
theorem Mg.endA {la lb out:List Keyed}{ia ib:Nat}(h:Mg ρ la lb out ia ib) (ub:Up ρ lb) (e:la.drop ia=[]):eJ ρ la lb (out++lb.drop ib):=by
 have:=h.perm
 rw [e,iE] at this
 exact⟨this,eC h.up (List.Pairwise.drop ub) h.leB⟩
theorem Mg.endL {la lb out:List Keyed}{ia ib:Nat}{z:Keyed}(h:Mg ρ la lb out ia ib) (ub:Up ρ lb) (e:la.drop ia=[z]) (hz:∀x∈lb,ρ x<=ρ z):eJ ρ la lb (out++lb.drop ib++la.drop ia):=by
 refine⟨?_,?_⟩
 ·refine List.Perm.trans ?_ h.perm
  rw [bw]
  exact List.Perm.append_left _ List.perm_append_comm
 ·refine eC (eC h.up (List.Pairwise.drop ub) h.leB) (by rw [e];exact List.pairwise_singleton _ _) λx hx y hy=>?_
  rcases yaA.mp hx with hx|hx
  ·exact h.leA x hx y hy
  ·rw [e] at hy
   rw [yaB.mp hy]
   exact hz x (kv hx)
theorem tI {l:List Keyed}{i:Nat}{x:Keyed}(h:l[i]?=some x):l.drop i=[x]++l.drop (i+1):=by
 obtain⟨hi,rfl⟩:=yao.mp h
 rw [kD hi]
 rfl
theorem drop_take (l:List Keyed) (i k:Nat):l.drop i=(l.drop i).take k++l.drop (i+k):=by
 rw [<-List.drop_drop,gF]
theorem jU (a:Array Keyed) (i j:Nat):(a.extract i j).toList=(a.toList.drop i).take (j - i):=by simp [List.drop_take,List.extract]
end
end Dw.So
namespace Dw.So
open PySem PyProof.Rows
abbrev C6:=Option (Array Keyed)×Array Keyed×Nat×Nat×Nat×Nat
abbrev C7:=Option (Array Keyed)×Array Keyed×Nat×Nat×Nat×Nat×Nat
abbrev C5:=Option (Array Keyed)×Array Keyed×Nat×Nat×Nat
section
variable (a b:Array Keyed)
noncomputable def rK (mg:Nat) (c:C6):StateT SortSt Sem (ForInStep C6):=do
 let some bWins <-lt' (<-elem' b c.2.2.2.1) (<-elem' a c.2.2.1)|pure (.done (some (c.2.1++a.extract c.2.2.1 a.size++b.extract c.2.2.2.1 b.size),c.2.1,c.2.2.1,c.2.2.2.1,c.2.2.2.2.1,c.2.2.2.2.2))
 if bWins then
  let x <-elem' b c.2.2.2.1
  if c.2.2.2.1+1 == b.size then pure (.done (some (c.2.1.push x++a.extract c.2.2.1 a.size++b.extract (c.2.2.2.1+1) b.size),c.2.1.push x,c.2.2.1,c.2.2.2.1+1,0,c.2.2.2.2.2+1))
  else if c.2.2.2.2.2+1 ≥ mg then pure (.done (none,c.2.1.push x,c.2.2.1,c.2.2.2.1+1,0,c.2.2.2.2.2+1))
  else pure (.yield (none,c.2.1.push x,c.2.2.1,c.2.2.2.1+1,0,c.2.2.2.2.2+1))
 else
  let x <-elem' a c.2.2.1
  if c.2.2.1+1+1 == a.size then pure (.done (some (c.2.1.push x++b.extract c.2.2.2.1 b.size++a.extract (c.2.2.1+1) a.size),c.2.1.push x,c.2.2.1+1,c.2.2.2.1,c.2.2.2.2.1+1,0))
  else if c.2.2.2.2.1+1 ≥ mg then pure (.done (none,c.2.1.push x,c.2.2.1+1,c.2.2.2.1,c.2.2.2.2.1+1,0))
  else pure (.yield (none,c.2.1.push x,c.2.2.1+1,c.2.2.2.1,c.2.2.2.2.1+1,0))
noncomputable def pd (out:Array Keyed) (ia ib mg ac bc:Nat):StateT SortSt Sem (ForInStep C7):=do
 let x <-elem' a ia
 if ia+1+1 == a.size then pure (.done (some (out.push x++b.extract ib b.size++a.extract (ia+1) a.size),out.push x,ia+1,ib,mg,ac,bc))
 else if ac<7&&bc<7 then pure (.done (none,out.push x,ia+1,ib,mg,ac,bc))
 else pure (.yield (none,out.push x,ia+1,ib,mg,ac,bc))
def oh (out:Array Keyed) (ia ib mg ac bc:Nat):StateT SortSt Sem (ForInStep C7):=do
 let x <-elem' b ib
 if ib+1 == b.size then pure (.done (some (out.push x++a.extract ia a.size++b.extract (ib+1) b.size),out.push x,ia,ib+1,mg,ac,bc))
 else
  let some k <-fR true (<-elem' a ia) b (ib+1) (b.size - (ib+1)) 0|pure (.done (some (out.push x++a.extract ia a.size++b.extract (ib+1) b.size),out.push x,ia,ib+1,mg,ac,bc))
  if k > 0 then
   if ib+1+k == b.size then pure (.done (some (out.push x++b.extract (ib+1) (ib+1+k)++a.extract ia a.size++b.extract (ib+1+k) b.size),out.push x++b.extract (ib+1) (ib+1+k),ia,ib+1+k,mg,ac,k))
   else pd a b (out.push x++b.extract (ib+1) (ib+1+k)) ia (ib+1+k) mg ac k
  else pd a b (out.push x) ia (ib+1) mg ac k
def oR (out:Array Keyed) (ia ib mg ac bc:Nat):StateT SortSt Sem (ForInStep C7):=do
 iP mg
 let some k <-fR false (<-elem' b ib) a ia (a.size - ia) 0|pure (.done (some (out++a.extract ia a.size++b.extract ib b.size),out,ia,ib,mg,ac,bc))
 if k > 0 then
  if ia+k+1 == a.size then pure (.done (some (out++a.extract ia (ia+k)++b.extract ib b.size++a.extract (ia+k) a.size),out++a.extract ia (ia+k),ia+k,ib,mg,k,bc))
  else if ia+k == a.size then pure (.done (some (out++a.extract ia (ia+k)++a.extract (ia+k) a.size++b.extract ib b.size),out++a.extract ia (ia+k),ia+k,ib,mg,k,bc))
  else oh a b (out++a.extract ia (ia+k)) (ia+k) ib mg k bc
 else oh a b out ia ib mg k bc
def rn (c:C7):StateT SortSt Sem (ForInStep C7):=if c.2.2.2.2.1 > 1 then oR a b c.2.1 c.2.2.1 c.2.2.2.1 (c.2.2.2.2.1 - 1) c.2.2.2.2.2.1 c.2.2.2.2.2.2 else oR a b c.2.1 c.2.2.1 c.2.2.2.1 c.2.2.2.2.1 c.2.2.2.2.2.1 c.2.2.2.2.2.2
def ot (c:C5):StateT SortSt Sem (ForInStep C5):=do
 let d <-forIn [0:a.size+b.size] ((none,c.2.1,c.2.2.1,c.2.2.2.1,0,0):C6) λ_ d=>rK a b c.2.2.2.2 d
 match d.1 with
 | some r=>pure (.done (some r,d.2.1,d.2.2.1,d.2.2.2.1,c.2.2.2.2))
 | none=>do
  rule "list.sort.gallop"
  let e <-forIn [0:a.size+b.size] ((none,d.2.1,d.2.2.1,d.2.2.2.1,c.2.2.2.2+1,d.2.2.2.2.1,d.2.2.2.2.2):C7) λ_ e=>rn a b e
  match e.1 with
  | some r=>pure (.done (some r,e.2.1,e.2.2.1,e.2.2.2.1,e.2.2.2.2.1))
  | none=>do
   iP (e.2.2.2.2.1+1)
   pure (.yield (none,e.2.1,e.2.2.1,e.2.2.2.1,e.2.2.2.2.1+1))
def uL:StateT SortSt Sem (Array Keyed):=do
 rule "list.sort.merge-lo"
 let x <-elem' b 0
 if 1 == b.size then pure (#[x]++a.extract 0 a.size++b.extract 1 b.size)
 else if 0+1 == a.size then pure (#[x]++b.extract 1 b.size++a.extract 0 a.size)
 else do
  let st <-get
  let c <-forIn [0:a.size+b.size] ((none,#[x],0,1,gallopOf st):C5) λ_ c=>ot a b c
  match c.1 with
  | some r=>pure r
  | none=>unsupported "internal:list.sort.merge-bound"
theorem bc {α β:Type}{m:StateT SortSt Sem α}{f g:α->StateT SortSt Sem β}(h:∀x,f x=g x):(m >>= f)=(m >>= g):=congrArg (m >>= ·) (funext h)
theorem qm {α β:Type}{l:Std.Legacy.Range}{c:α}{u v:Nat->α->StateT SortSt Sem (ForInStep α)}{f g:α->StateT SortSt Sem β}(hu:∀x c,u x c=v x c) (h:∀x,f x=g x):(forIn l c u >>= f)=(forIn l c v >>= g):=by
 rw [show u=v from funext λx=>funext λc=>hu x c,show f=g from funext h]
theorem qSg:p0 a b=uL a b:=by
 rw [qFn]
 unfold uL
 refine bc λ_=>?_
 refine bc λx=>?_
 by_cases h1:(1 == b.size)=true
 ·exact (Ql h1).trans (Ql h1).symm
 refine (Qm h1).trans (Eq.trans ?_ (Qm h1).symm)
 by_cases h2:(0+1 == a.size)=true
 ·exact (Ql h2).trans (Ql h2).symm
 refine (Qm h2).trans (Eq.trans ?_ (Qm h2).symm)
 refine bc λst=>?_
 refine qm (λ_ c=>?_) λc=>?_
 ·unfold ot
  refine bc λd=>?_
  obtain⟨d1,d2⟩:=d
  cases d1 with
  | some r=>rfl
  | none =>
   refine bc λ_=>?_
   refine bc λe=>?_
   obtain⟨e1,e2⟩:=e
   cases e1<;>rfl
 ·obtain⟨c1,c2⟩:=c
  cases c1<;>rfl
end
end Dw.So
namespace Dw.So
open PySem PyProof.Rows
section
variable {prog:Program}{w:World}{A:Around}{E:Value->Shared->Prop}{s:Shared}{kd:SortKind}{ρ:Keyed->Nat}{P:Keyed->Prop}{a b:Array Keyed}
structure In (ρ:Keyed->Nat) (P:Keyed->Prop) (a b:Array Keyed):Prop where
 ua:Up ρ a.toList
 ub:Up ρ b.toList
 pa:∀x∈a.toList,P x
 pb:∀x∈b.toList,P x
 na:0<a.size
 nb:0<b.size
 last:∀z,a.toList[a.size - 1]?=some z->∀x∈b.toList,ρ x<=ρ z
 first:∀x,b.toList[0]?=some x->∀y∈a.toList,ρ x<=ρ y
def W (ρ:Keyed->Nat) (a b:Array Keyed) (st:SortSt) (o:Option (Array Keyed)) (out:Array Keyed) (ia ib n:Nat) (st':SortSt):Prop:=(∃g,st'=bM st g)/\match o with
 | some r=>eJ ρ a.toList b.toList r.toList
 | none=>Mg ρ a.toList b.toList out.toList ia ib/\ia+1<a.size/\ib<b.size/\n<=ia+ib
theorem fj {a:Array Keyed}{i:Nat}(h:i<a.size):∃x,a.toList[i]?=some x:=⟨_,cz (by rw [cw];exact h)⟩
theorem mO {a:Array Keyed}{i:Nat}(h:a.size<=i):a.toList.drop i=[]:=List.drop_eq_nil_of_le (by rw [cw];exact h)
theorem k9 (a:Array Keyed) (i:Nat):(a.extract i a.size).toList=a.toList.drop i:=by
 rw [jU,dF (by rw [hJ,cw];omega)]
theorem pj (I:In ρ P a b) {out:Array Keyed}{ia ib:Nat}(m:Mg ρ a.toList b.toList out.toList ia ib) (h:b.size<=ib):eJ ρ a.toList b.toList (out++a.extract ia a.size++b.extract ib b.size).toList:=by
 rw [Array.toList_append,Array.toList_append,k9,k9,mO h,cL]
 exact m.endB I.ua (mO h)
theorem qRS (I:In ρ P a b) {out:Array Keyed}{ia ib:Nat}(m:Mg ρ a.toList b.toList out.toList ia ib) (h:a.size<=ia):eJ ρ a.toList b.toList (out++a.extract ia a.size++b.extract ib b.size).toList:=by
 rw [Array.toList_append,Array.toList_append,k9,k9,mO h,cL]
 exact m.endA I.ub (mO h)
theorem pq (I:In ρ P a b) {out:Array Keyed}{ia ib:Nat}(m:Mg ρ a.toList b.toList out.toList ia ib) (h:ia+1=a.size):eJ ρ a.toList b.toList (out++b.extract ib b.size++a.extract ia a.size).toList:=by
 rw [Array.toList_append,Array.toList_append,k9,k9]
 obtain⟨z,hz⟩:=fj (a:=a) (i:=ia) (by omega)
 refine m.endL I.ub (z:=z) ?_ (I.last z (by rw [<-h];exact hz))
 rw [tI hz,mO (by omega),cL]
theorem xy (I:In ρ P a b) {out:Array Keyed}{ia ib:Nat}{x:Keyed}(m:Mg ρ a.toList b.toList out.toList ia ib) (hx:a.toList[ia]?=some x) (h:∀y∈b.toList.drop ib,ρ x<=ρ y):Mg ρ a.toList b.toList (out.push x).toList (ia+1) ib:=by
 rw [Array.toList_push]
 exact m.appA I.ua (tI hx) λz hz=>by rw [yaB.mp hz];exact h
theorem sv (I:In ρ P a b) {out:Array Keyed}{ia ib:Nat}{x:Keyed}(m:Mg ρ a.toList b.toList out.toList ia ib) (hx:b.toList[ib]?=some x) (h:∀y∈a.toList.drop ia,ρ x<=ρ y):Mg ρ a.toList b.toList (out.push x).toList ia (ib+1):=by
 rw [Array.toList_push]
 exact m.appB I.ub (tI hx) λz hz=>by rw [yaB.mp hz];exact h
theorem zC {l:List Keyed}{i k:Nat}{x:Keyed}(h:x∈(l.drop i).take k):∃j,j<k/\l[i+j]?=some x:=by
 obtain⟨j,hj⟩:=yay.mp h
 rw [List.getElem?_take] at hj
 split at hj
 ·rw [List.getElem?_drop] at hj
  exact⟨j,by assumption,hj⟩
 ·cases hj
theorem qSS (I:In ρ P a b) {out:Array Keyed}{ia ib k:Nat}(m:Mg ρ a.toList b.toList out.toList ia ib) (h:∀j x,j<k->a.toList[ia+j]?=some x->∀y∈b.toList.drop ib,ρ x<=ρ y):Mg ρ a.toList b.toList (out++a.extract ia (ia+k)).toList (ia+k) ib:=by
 rw [Array.toList_append,jU,f6]
 exact m.appA I.ua (drop_take _ ia k) λx hx=>by
  obtain⟨j,hj,e⟩:=zC hx
  exact h j x hj e
theorem qSR (I:In ρ P a b) {out:Array Keyed}{ia ib k:Nat}(m:Mg ρ a.toList b.toList out.toList ia ib) (h:∀j x,j<k->b.toList[ib+j]?=some x->∀y∈a.toList.drop ia,ρ x<=ρ y):Mg ρ a.toList b.toList (out++b.extract ib (ib+k)).toList ia (ib+k):=by
 rw [Array.toList_append,jU,f6]
 exact m.appB I.ub (drop_take _ ib k) λx hx=>by
  obtain⟨j,hj,e⟩:=zC hx
  exact h j x hj e
abbrev R6 (ρ:Keyed->Nat) (a b:Array Keyed) (st:SortSt) (n:Nat):ForInStep C6->SortSt->Prop:=λr st'=>match r with
 | .done c=>W ρ a b st c.1 c.2.1 c.2.2.1 c.2.2.2.1 n st'
 | .yield c=>c.1=none/\W ρ a b st c.1 c.2.1 c.2.2.1 c.2.2.2.1 n st'
theorem qKm (hlt:cD prog w A E s kd ρ P) (I:In ρ P a b) {st st':SortSt}(hk:kindOf st=kd) (hg:∃g,st'=bM st g) {out:Array Keyed}{ia ib ac bc mg n:Nat}(m:Mg ρ a.toList b.toList out.toList ia ib) (ha:ia+1<a.size) (hb:ib<b.size) (hn:n<=ia+ib) :
  wpS (model prog w) A E s (rK a b mg (none,out,ia,ib,ac,bc)) (R6 ρ a b st (n+1)) st':=by
 obtain⟨x,hx⟩:=fj hb
 obtain⟨y,hy⟩:=fj (a:=a) (i:=ia) (by omega)
 have px:=I.pb x (cj hx)
 have py:=I.pa y (cj hy)
 have hk':kindOf st'=kd:=by obtain⟨g,rfl⟩:=hg;exact hk
 unfold rK
 refine wpS_bind (cI hx (wpS_bind (cI hy (wpS_bind (hlt x y st' _ px py hk' ?_)))))
 dsimp only
 by_cases h:ρ x<ρ y
 ·rw [Qk h,Ql rfl]
  have m':=sv I m hx λz hz=>aM (fb h) (mW I.ua hy hz)
  refine wpS_bind (cI hx ?_)
  by_cases e:ib+1=b.size
  ·rw [Ql (by simpa using e)]
   exact wpS_pure ⟨hg,pj I m' (by omega)⟩
  ·rw [Qm (by simpa using e)]
   split
   ·exact wpS_pure ⟨hg,m',ha,(by dsimp only;omega),(by dsimp only;omega)⟩
   ·exact wpS_pure ⟨rfl,hg,m',ha,(by dsimp only;omega),(by dsimp only;omega)⟩
 ·rw [Qj h,Qm (by simp)]
  have m':=xy I m hy λz hz=>aM (by omega) (mW I.ub hx hz)
  refine wpS_bind (cI hy ?_)
  by_cases e:ia+1+1=a.size
  ·rw [Ql (by simpa using e)]
   exact wpS_pure ⟨hg,pq I m' e⟩
  ·rw [Qm (by simpa using e)]
   split
   ·exact wpS_pure ⟨hg,m',(by dsimp only;omega),hb,(by dsimp only;omega)⟩
   ·exact wpS_pure ⟨rfl,hg,m',(by dsimp only;omega),hb,(by dsimp only;omega)⟩
abbrev R7 (ρ:Keyed->Nat) (a b:Array Keyed) (st:SortSt) (n:Nat):ForInStep C7->SortSt->Prop:=λr st'=>match r with
 | .done c=>W ρ a b st c.1 c.2.1 c.2.2.1 c.2.2.2.1 n st'
 | .yield c=>c.1=none/\W ρ a b st c.1 c.2.1 c.2.2.1 c.2.2.2.1 n st'
theorem zL (I:In ρ P a b) {st st':SortSt}(hg:∃g,st'=bM st g) {out:Array Keyed}{ia ib ac bc mg n:Nat}{x:Keyed}(m:Mg ρ a.toList b.toList out.toList ia ib) (ha:ia+1<a.size) (hb:ib<b.size) (hn:n<=ia+ib) (hx:a.toList[ia]?=some x) (h:∀y∈b.toList.drop ib,ρ x<=ρ y) :
  wpS (model prog w) A E s (pd a b out ia ib mg ac bc) (R7 ρ a b st n) st':=by
 unfold pd
 have m':=xy I m hx h
 refine wpS_bind (cI hx ?_)
 by_cases e:ia+1+1=a.size
 ·rw [Ql (by simpa using e)]
  exact wpS_pure ⟨hg,pq I m' e⟩
 ·rw [Qm (by simpa using e)]
  split
  ·exact wpS_pure ⟨hg,m',(by dsimp only;omega),hb,(by dsimp only;omega)⟩
  ·exact wpS_pure ⟨rfl,hg,m',(by dsimp only;omega),hb,(by dsimp only;omega)⟩
theorem zJ (hlt:cD prog w A E s kd ρ P) (I:In ρ P a b) {st st':SortSt}(hk:kindOf st=kd) (hg:∃g,st'=bM st g) {out:Array Keyed}{ia ib ac bc mg n:Nat}{x:Keyed}(m:Mg ρ a.toList b.toList out.toList ia ib) (ha:ia+1<a.size) (hb:ib<b.size) (hn:n<=ia+ib) (hx:b.toList[ib]?=some x) (h:∀y∈a.toList.drop ia,ρ x<=ρ y) :
  wpS (model prog w) A E s (oh a b out ia ib mg ac bc) (R7 ρ a b st n) st':=by
 unfold oh
 have m':=sv I m hx h
 obtain⟨y,hy⟩:=fj (a:=a) (i:=ia) (by omega)
 have py:=I.pa y (cj hy)
 have hk':kindOf st'=kd:=by obtain⟨g,rfl⟩:=hg;exact hk
 refine wpS_bind (cI hx ?_)
 by_cases e:ib+1=b.size
 ·rw [Ql (by simpa using e)]
  exact wpS_pure ⟨hg,pj I m' (by omega)⟩
 ·rw [Qm (by simpa using e)]
  refine wpS_bind (cI hy (wpS_bind (lj (left:=true) hlt hk' py I.pb (by omega) (λi j u v _ hij _ hu hv=>jc I.ub hij hu hv) (by omega) λk k1 k2 k3=>?_)))
  simp only [if_true] at k2 k3
  dsimp only
  have rest:∀z∈b.toList.drop (ib+1+k),ρ y<=ρ z:=λz hz=>by
   obtain⟨j,hj⟩:=yay.mp hz
   rw [List.getElem?_drop] at hj
   have:ib+1+k+j<b.size:=by obtain⟨q,_⟩:=yao.mp hj;rw [cw] at q;exact q
   exact k3 (k+j) z (by omega) (by omega) (by rw [show ib+1+(k+j)=ib+1+k+j by omega];exact hj)
  by_cases hk0:k > 0
  ·rw [Ql hk0]
   have m2:=qSR (k:=k) I m' λj u hj hu z hz=>aM (fb (k2 j u hj hu)) (mW I.ua hy hz)
   by_cases e2:ib+1+k=b.size
   ·rw [Ql (by simpa using e2)]
    exact wpS_pure ⟨hg,pj I m2 (by omega)⟩
   ·rw [Qm (by simpa using e2)]
    exact zL I hg m2 ha (by omega) (by omega) hy rest
  ·rw [Qm hk0]
   obtain rfl:k=0:=by omega
   exact zL I hg m' ha (by omega) (by omega) hy rest
theorem z0 (hlt:cD prog w A E s kd ρ P) (I:In ρ P a b) {st st':SortSt}(hk:kindOf st=kd) (hg:∃g,st'=bM st g) {out:Array Keyed}{ia ib ac bc mg n:Nat}(m:Mg ρ a.toList b.toList out.toList ia ib) (ha:ia+1<a.size) (hb:ib<b.size) (hn:n<=ia+ib) :
  wpS (model prog w) A E s (oR a b out ia ib mg ac bc) (R7 ρ a b st n) st':=by
 unfold oR
 obtain⟨x,hx⟩:=fj hb
 have px:=I.pb x (cj hx)
 rw [qd]
 refine wpS_bind (wpS_modify ?_)
 have hg:∃g,bM st' mg=bM st g:=by obtain⟨g,rfl⟩:=hg;exact⟨mg,rfl⟩
 generalize bM st' mg=st2 at hg
 have hk':kindOf st2=kd:=by obtain⟨g,rfl⟩:=hg;exact hk
 refine wpS_bind (cI hx (wpS_bind (lj (left:=false) hlt hk' px I.pa (by omega) (λi j u v _ hij _ hu hv=>jc I.ua hij hu hv) (by omega) λk k1 k2 k3=>?_)))
 simp only [fB,if_false] at k2 k3
 dsimp only
 have rest:∀z∈a.toList.drop (ia+k),ρ x<=ρ z:=λz hz=>by
  obtain⟨j,hj⟩:=yay.mp hz
  rw [List.getElem?_drop] at hj
  have:ia+k+j<a.size:=by obtain⟨q,_⟩:=yao.mp hj;rw [cw] at q;exact q
  exact fb (k3 (k+j) z (by omega) (by omega) (by rw [show ia+(k+j)=ia+k+j by omega];exact hj))
 by_cases hk0:k > 0
 ·rw [Ql hk0]
  have m2:=qSS (k:=k) I m λj u hj hu z hz=>aM (k2 j u hj hu) (mW I.ub hx hz)
  by_cases e1:ia+k+1=a.size
  ·rw [Ql (by simpa using e1)]
   exact wpS_pure ⟨hg,pq I m2 e1⟩
  ·rw [Qm (by simpa using e1)]
   by_cases e2:ia+k=a.size
   ·rw [Ql (by simpa using e2)]
    exact wpS_pure ⟨hg,qRS I m2 (by omega)⟩
   ·rw [Qm (by simpa using e2)]
    exact zJ hlt I hk hg m2 (by omega) hb (by omega) hx rest
 ·rw [Qm hk0]
  obtain rfl:k=0:=by omega
  exact zJ hlt I hk hg m ha hb hn hx rest
theorem qKO (hlt:cD prog w A E s kd ρ P) (I:In ρ P a b) {st st':SortSt}(hk:kindOf st=kd) (hg:∃g,st'=bM st g) {out:Array Keyed}{ia ib ac bc mg n:Nat}(m:Mg ρ a.toList b.toList out.toList ia ib) (ha:ia+1<a.size) (hb:ib<b.size) (hn:n<=ia+ib) :
  wpS (model prog w) A E s (rn a b (none,out,ia,ib,mg,ac,bc)) (R7 ρ a b st n) st':=by
 unfold rn
 split
 ·exact z0 hlt I hk hg m ha hb hn
 ·exact z0 hlt I hk hg m ha hb hn
theorem qKg (hlt:cD prog w A E s kd ρ P) (I:In ρ P a b) {st st':SortSt}(hk:kindOf st=kd) (hg:∃g,st'=bM st g) {out:Array Keyed}{ia ib mg n:Nat}(m:Mg ρ a.toList b.toList out.toList ia ib) (ha:ia+1<a.size) (hb:ib<b.size) (hn:n<=ia+ib) :
  wpS (model prog w) A E s (ot a b (none,out,ia,ib,mg)) (λr st'=>match r with|.done c=>W ρ a b st c.1 c.2.1 c.2.2.1 c.2.2.2.1 (n+1) st'/\c.1≠none|.yield c=>c.1=none/\W ρ a b st c.1 c.2.1 c.2.2.1 c.2.2.2.1 (n+1) st') st':=by
 unfold ot
 refine wpS_bind (wpS_mono (wpS_forRange (I:=λ(x:Nat) (c:C6) (st':SortSt)=>c.1=none/\W ρ a b st c.1 c.2.1 c.2.2.1 c.2.2.2.1 (n+x) st') (Q:=λ(c:C6) (st':SortSt)=>W ρ a b st c.1 c.2.1 c.2.2.1 c.2.2.2.1 (n+1) st') ?step ?fin ⟨rfl,hg,m,ha,hb,hn⟩) ?post)
 case fin =>
  rintro c st' ⟨h1,h2,h3⟩
  refine⟨h2,?_⟩
  rw [h1] at h3 ⊢
  obtain⟨g1,g2,g3,g4⟩:=h3
  exact⟨g1,g2,g3,by omega⟩
 case step =>
  rintro x ⟨o,out,ia,ib,ac,bc⟩ st' _ hx ⟨h1,h2,h3⟩
  obtain rfl:o=none:=h1
  obtain⟨g1,g2,g3,g4⟩:=h3
  refine wpS_mono (qKm hlt I hk h2 g1 g2 g3 g4) λr st2 hr=>?_
  cases r with
  | done c =>
   obtain⟨q1,q2⟩:=hr
   refine⟨q1,?_⟩
   cases e:c.1 with
   | some r=>rw [e] at q2;exact q2
   | none=>rw [e] at q2;exact⟨q2.1,q2.2.1,q2.2.2.1,by have:=q2.2.2.2;omega⟩
  | yield c=>exact hr
 case post =>
  rintro⟨o,out,ia,ib,ac,bc⟩ st' ⟨h2,h3⟩
  dsimp only
  cases o with
  | some r=>exact wpS_pure ⟨⟨h2,h3⟩,by simp⟩
  | none =>
   obtain⟨g1,g2,g3,g4⟩:=h3
   refine wpS_bind (wpS_lift (wpAny_rule ⟨rfl,?_⟩))
   refine wpS_bind (wpS_mono (wpS_forRange (I:=λ(x:Nat) (c:C7) (st':SortSt)=>c.1=none/\W ρ a b st c.1 c.2.1 c.2.2.1 c.2.2.2.1 (n+1) st') (Q:=λ(c:C7) (st':SortSt)=>W ρ a b st c.1 c.2.1 c.2.2.1 c.2.2.2.1 (n+1) st') ?_ (λc st' h=>h.2) ⟨rfl,h2,g1,g2,g3,g4⟩) ?_)
   ·rintro x ⟨o,out,ia,ib,mg,ac,bc⟩ st' _ hx ⟨h1,h2,h3⟩
    obtain rfl:o=none:=h1
    obtain⟨g1,g2,g3,g4⟩:=h3
    refine wpS_mono (qKO hlt I hk h2 g1 g2 g3 g4) λr st2 hr=>?_
    cases r with
    | done c=>exact hr
    | yield c=>exact hr
   ·rintro⟨o,out,ia,ib,mg,ac,bc⟩ st' ⟨h2,h3⟩
    dsimp only
    cases o with
    | some r=>exact wpS_pure ⟨⟨h2,h3⟩,by simp⟩
    | none =>
     rw [qd]
     refine wpS_bind (wpS_modify (wpS_pure ⟨rfl,?_,h3⟩))
     obtain⟨g,rfl⟩:=h2
     exact⟨_,rfl⟩
theorem qOz (hlt:cD prog w A E s kd ρ P) (I:In ρ P a b) {st:SortSt}(hk:kindOf st=kd) {Q:Array Keyed->SortSt->Prop}(h:∀r g,eJ ρ a.toList b.toList r.toList->Q r (bM st g)):wpS (model prog w) A E s (p0 a b) Q st:=by
 have fin:∀{r st'},(∃g,st'=bM st g)->eJ ρ a.toList b.toList r.toList->Q r st':=λ⟨g,e⟩ hr=>by rw [e];exact h _ g hr
 have hg:∃g,st=bM st g:=⟨gallopOf st,rfl⟩
 rw [qSg]
 unfold uL
 refine wpS_bind (wpS_lift (wpAny_rule ⟨rfl,?_⟩))
 obtain⟨x,hx⟩:=fj I.nb
 refine wpS_bind (cI hx ?_)
 have m0:Mg ρ a.toList b.toList (#[]:Array Keyed).toList 0 0:=⟨by simp,by simp,λx hx=>by simp at hx,λx hx=>by simp at hx⟩
 have m:Mg ρ a.toList b.toList (#[x]:Array Keyed).toList 0 1:=sv I m0 hx (I.first x hx)
 by_cases e1:1=b.size
 ·rw [Ql (by simpa using e1)]
  exact wpS_pure (fin hg (pj I m (by omega)))
 ·rw [Qm (by simpa using e1)]
  by_cases e2:0+1=a.size
  ·rw [Ql (by simpa using e2)]
   exact wpS_pure (fin hg (pq I m e2))
  ·rw [Qm (by simpa using e2)]
   refine wpS_bind (wpS_get ?_)
   have:=I.na
   have:=I.nb
   refine wpS_bind (wpS_mono (wpS_forRange (I:=λ(x:Nat) (c:C5) (st':SortSt)=>c.1=none/\W ρ a b st c.1 c.2.1 c.2.2.1 c.2.2.2.1 (x+1) st') (Q:=λ(c:C5) (st':SortSt)=>W ρ a b st c.1 c.2.1 c.2.2.1 c.2.2.2.1 0 st'/\c.1≠none) ?_ ?_ ⟨rfl,hg,m,(by dsimp only;omega),(by dsimp only;omega),(by dsimp only;omega)⟩) ?_)
   ·rintro x ⟨o,out,ia,ib,mg⟩ st' _ hx ⟨h1,h2,h3⟩
    obtain rfl:o=none:=h1
    obtain⟨g1,g2,g3,g4⟩:=h3
    refine wpS_mono (qKg hlt I hk h2 g1 g2 g3 g4) λr st2 hr=>?_
    cases r with
    | done c =>
     obtain⟨⟨q1,q2⟩,q3⟩:=hr
     refine⟨⟨q1,?_⟩,q3⟩
     cases e:c.1 with
     | some r=>rw [e] at q2;exact q2
     | none=>exact Qn e q3
    | yield c=>exact hr
   ·rintro⟨o,out,ia,ib,mg⟩ st' ⟨h1,h2,h3⟩
    obtain rfl:o=none:=h1
    obtain⟨g1,g2,g3,g4⟩:=h3
    omega
   ·rintro⟨o,out,ia,ib,mg⟩ st' ⟨⟨h2,h3⟩,h4⟩
    cases o with
    | none=>exact Qn rfl h4
    | some r=>exact wpS_pure (fin h2 h3)
end
end Dw.So
namespace Dw.So
open PySem PyProof.Rows
noncomputable def pZ:Array Keyed->Array Keyed->StateT SortSt Sem (Array Keyed):=sortPriv% PySem.Builtin.mergeHi
theorem qFo (a b:Array Keyed):pZ a b=(do
 rule "list.sort.merge-hi"
 let total:=a.size+b.size
 let done (out:Array Keyed) (na nb:Nat):=a.extract 0 na++b.extract 0 nb++out.reverse
 let firstOfB (out:Array Keyed) (na nb:Nat):=b.extract 0 nb++a.extract 0 na++out.reverse
 let mut na:=a.size - 1
 let mut nb:=b.size
 let mut out:Array Keyed:=#[<-elem' a na]
 if na == 0 then return done out na nb
 if nb == 1 then return firstOfB out na nb
 let mut minGallop:=gallopOf (<-get)
 for _ in [0:total] do
  let mut acount:=0
  let mut bcount:=0
  for _ in [0:total] do
   let some aWins <-lt' (<-elem' b (nb - 1)) (<-elem' a (na - 1))|return done out na nb
   if aWins then
    na:=na - 1;out:=out.push (<-elem' a na);acount:=acount+1;bcount:=0
    if na == 0 then return done out na nb
    if acount ≥ minGallop then break
   else
    nb:=nb - 1;out:=out.push (<-elem' b nb);bcount:=bcount+1;acount:=0
    if nb == 1 then return firstOfB out na nb
    if bcount ≥ minGallop then break
  rule "list.sort.gallop"
  minGallop:=minGallop+1
  for _ in [0:total] do
   if minGallop > 1 then minGallop:=minGallop - 1
   iP minGallop
   let some at_ <-fR false (<-elem' b (nb - 1)) a 0 na (na - 1)|return done out na nb
   let k:=na - at_
   acount:=k
   if k > 0 then
    out:=out++(a.extract at_ na).reverse;na:=at_
    if na == 0 then return done out na nb
   nb:=nb - 1;out:=out.push (<-elem' b nb)
   if nb == 1 then return firstOfB out na nb
   let some at_ <-fR true (<-elem' a (na - 1)) b 0 nb (nb - 1)|return done out na nb
   let k:=nb - at_
   bcount:=k
   if k > 0 then
    out:=out++(b.extract at_ nb).reverse;nb:=at_
    if nb == 1 then return firstOfB out na nb
    if nb == 0 then return done out na nb
   na:=na - 1;out:=out.push (<-elem' a na)
   if na == 0 then return done out na nb
   if acount<7&&bcount<7 then break
  minGallop:=minGallop+1
  iP minGallop
 unsupported "internal:list.sort.merge-bound"):=rfl
abbrev H6:=Option (Array Keyed)×Nat×Nat×Array Keyed×Nat×Nat
abbrev H7:=Option (Array Keyed)×Nat×Nat×Array Keyed×Nat×Nat×Nat
abbrev H5:=Option (Array Keyed)×Nat×Nat×Array Keyed×Nat
section
variable (a b:Array Keyed)
noncomputable abbrev gD (out:Array Keyed) (na nb:Nat):Array Keyed:=a.extract 0 na++b.extract 0 nb++out.reverse
noncomputable abbrev j8 (out:Array Keyed) (na nb:Nat):Array Keyed:=b.extract 0 nb++a.extract 0 na++out.reverse
def rz (mg:Nat) (c:H6):StateT SortSt Sem (ForInStep H6):=do
 let some aWins <-lt' (<-elem' b (c.2.2.1 - 1)) (<-elem' a (c.2.1 - 1))|pure (.done (some (gD a b c.2.2.2.1 c.2.1 c.2.2.1),c.2.1,c.2.2.1,c.2.2.2.1,c.2.2.2.2.1,c.2.2.2.2.2))
 if aWins then
  let x <-elem' a (c.2.1 - 1)
  if c.2.1 - 1 == 0 then pure (.done (some (gD a b (c.2.2.2.1.push x) (c.2.1 - 1) c.2.2.1),c.2.1 - 1,c.2.2.1,c.2.2.2.1.push x,c.2.2.2.2.1+1,0))
  else if c.2.2.2.2.1+1 ≥ mg then pure (.done (none,c.2.1 - 1,c.2.2.1,c.2.2.2.1.push x,c.2.2.2.2.1+1,0))
  else pure (.yield (none,c.2.1 - 1,c.2.2.1,c.2.2.2.1.push x,c.2.2.2.2.1+1,0))
 else
  let x <-elem' b (c.2.2.1 - 1)
  if c.2.2.1 - 1 == 1 then pure (.done (some (j8 a b (c.2.2.2.1.push x) c.2.1 (c.2.2.1 - 1)),c.2.1,c.2.2.1 - 1,c.2.2.2.1.push x,0,c.2.2.2.2.2+1))
  else if c.2.2.2.2.2+1 ≥ mg then pure (.done (none,c.2.1,c.2.2.1 - 1,c.2.2.2.1.push x,0,c.2.2.2.2.2+1))
  else pure (.yield (none,c.2.1,c.2.2.1 - 1,c.2.2.2.1.push x,0,c.2.2.2.2.2+1))
def pf (out:Array Keyed) (na nb mg ac bc:Nat):StateT SortSt Sem (ForInStep H7):=do
 let x <-elem' a (na - 1)
 if na - 1 == 0 then pure (.done (some (gD a b (out.push x) (na - 1) nb),na - 1,nb,out.push x,mg,ac,bc))
 else if ac<7&&bc<7 then pure (.done (none,na - 1,nb,out.push x,mg,ac,bc))
 else pure (.yield (none,na - 1,nb,out.push x,mg,ac,bc))
def oi (out:Array Keyed) (na nb mg ac bc:Nat):StateT SortSt Sem (ForInStep H7):=do
 let x <-elem' b (nb - 1)
 if nb - 1 == 1 then pure (.done (some (j8 a b (out.push x) na (nb - 1)),na,nb - 1,out.push x,mg,ac,bc))
 else
  let some k <-fR true (<-elem' a (na - 1)) b 0 (nb - 1) (nb - 1 - 1)|pure (.done (some (gD a b (out.push x) na (nb - 1)),na,nb - 1,out.push x,mg,ac,bc))
  if nb - 1 - k > 0 then
   if k == 1 then pure (.done (some (j8 a b (out.push x++(b.extract k (nb - 1)).reverse) na k),na,k,out.push x++(b.extract k (nb - 1)).reverse,mg,ac,nb - 1 - k))
   else if k == 0 then pure (.done (some (gD a b (out.push x++(b.extract k (nb - 1)).reverse) na k),na,k,out.push x++(b.extract k (nb - 1)).reverse,mg,ac,nb - 1 - k))
   else pf a b (out.push x++(b.extract k (nb - 1)).reverse) na k mg ac (nb - 1 - k)
  else pf a b (out.push x) na (nb - 1) mg ac (nb - 1 - k)
def oS (out:Array Keyed) (na nb mg ac bc:Nat):StateT SortSt Sem (ForInStep H7):=do
 iP mg
 let some k <-fR false (<-elem' b (nb - 1)) a 0 na (na - 1)|pure (.done (some (gD a b out na nb),na,nb,out,mg,ac,bc))
 if na - k > 0 then
  if k == 0 then pure (.done (some (gD a b (out++(a.extract k na).reverse) k nb),k,nb,out++(a.extract k na).reverse,mg,na - k,bc))
  else oi a b (out++(a.extract k na).reverse) k nb mg (na - k) bc
 else oi a b out na nb mg (na - k) bc
def rj (c:H7):StateT SortSt Sem (ForInStep H7):=if c.2.2.2.2.1 > 1 then oS a b c.2.2.2.1 c.2.1 c.2.2.1 (c.2.2.2.2.1 - 1) c.2.2.2.2.2.1 c.2.2.2.2.2.2 else oS a b c.2.2.2.1 c.2.1 c.2.2.1 c.2.2.2.2.1 c.2.2.2.2.2.1 c.2.2.2.2.2.2
def oq (c:H5):StateT SortSt Sem (ForInStep H5):=do
 let d <-forIn [0:a.size+b.size] ((none,c.2.1,c.2.2.1,c.2.2.2.1,0,0):H6) λ_ d=>rz a b c.2.2.2.2 d
 match d.1 with
 | some r=>pure (.done (some r,d.2.1,d.2.2.1,d.2.2.2.1,c.2.2.2.2))
 | none=>do
  rule "list.sort.gallop"
  let e <-forIn [0:a.size+b.size] ((none,d.2.1,d.2.2.1,d.2.2.2.1,c.2.2.2.2+1,d.2.2.2.2.1,d.2.2.2.2.2):H7) λ_ e=>rj a b e
  match e.1 with
  | some r=>pure (.done (some r,e.2.1,e.2.2.1,e.2.2.2.1,e.2.2.2.2.1))
  | none=>do
   iP (e.2.2.2.2.1+1)
   pure (.yield (none,e.2.1,e.2.2.1,e.2.2.2.1,e.2.2.2.2.1+1))
def uO:StateT SortSt Sem (Array Keyed):=do
 rule "list.sort.merge-hi"
 let x <-elem' a (a.size - 1)
 if a.size - 1 == 0 then pure (gD a b #[x] (a.size - 1) b.size)
 else if b.size == 1 then pure (j8 a b #[x] (a.size - 1) b.size)
 else do
  let st <-get
  let c <-forIn [0:a.size+b.size] ((none,a.size - 1,b.size,#[x],gallopOf st):H5) λ_ c=>oq a b c
  match c.1 with
  | some r=>pure r
  | none=>unsupported "internal:list.sort.merge-bound"
theorem qSn:pZ a b=uO a b:=by
 rw [qFo]
 unfold uO
 refine bc λ_=>?_
 refine bc λx=>?_
 by_cases h1:(a.size - 1 == 0)=true
 ·exact (Ql h1).trans (Ql h1).symm
 refine (Qm h1).trans (Eq.trans ?_ (Qm h1).symm)
 by_cases h2:(b.size == 1)=true
 ·exact (Ql h2).trans (Ql h2).symm
 refine (Qm h2).trans (Eq.trans ?_ (Qm h2).symm)
 refine bc λst=>?_
 refine qm (λ_ c=>?_) λc=>?_
 ·unfold oq
  refine bc λd=>?_
  obtain⟨d1,d2⟩:=d
  cases d1 with
  | some r=>rfl
  | none =>
   refine bc λ_=>?_
   refine bc λe=>?_
   obtain⟨e1,e2⟩:=e
   cases e1<;>rfl
 ·obtain⟨c1,c2⟩:=c
  cases c1<;>rfl
end
section
variable {prog:Program}{w:World}{A:Around}{E:Value->Shared->Prop}{s:Shared}{kd:SortKind}{ρ:Keyed->Nat}{P:Keyed->Prop}{a b:Array Keyed}
structure Mh (ρ:Keyed->Nat) (la lb out:List Keyed) (na nb:Nat):Prop where
 perm:(la.take na++(lb.take nb++out.reverse)).Perm (la++lb)
 up:Up ρ out.reverse
 geA:∀x∈out,∀y∈la.take na,ρ y<=ρ x
 geB:∀x∈out,∀y∈lb.take nb,ρ y<=ρ x
theorem lh {l:List Keyed}(h:Up ρ l) (n:Nat):Up ρ (l.take n):=List.Pairwise.take h
theorem Mh.appA {la lb out l:List Keyed}{na nb k:Nat}(h:Mh ρ la lb out na nb) (ua:Up ρ la) (hl:la.take na=la.take k++l) (hb:∀x∈l,∀y∈lb.take nb,ρ y<=ρ x):Mh ρ la lb (out++l.reverse) k nb:=by
 have ud:Up ρ (la.take k++l):=by rw [<-hl];exact lh ua na
 obtain⟨u1,u2,u3⟩:=List.pairwise_append.mp ud
 have sub:∀y∈l,y∈la.take na:=λy hy=>by rw [hl];exact cM _ hy
 have sub':∀y∈la.take k,y∈la.take na:=λy hy=>by rw [hl];exact iH _ hy
 refine⟨?_,?_,λx hx y hy=>?_,λx hx y hy=>?_⟩
 ·refine List.Perm.trans ?_ h.perm
  rw [hl,lV,List.reverse_reverse,bw]
  refine List.Perm.append_left _ ?_
  rw [<-bw,<-bw]
  exact List.Perm.append_right _ List.perm_append_comm
 ·rw [lV,List.reverse_reverse]
  exact eC u2 h.up λx hx y hy=>h.geA y (List.mem_reverse.mp hy) x (sub x hx)
 ·rcases yaA.mp hx with hx|hx
  ·exact h.geA x hx y (sub' y hy)
  ·exact u3 y hy x (List.mem_reverse.mp hx)
 ·rcases yaA.mp hx with hx|hx
  ·exact h.geB x hx y hy
  ·exact hb x (List.mem_reverse.mp hx) y hy
theorem Mh.appB {la lb out l:List Keyed}{na nb k:Nat}(h:Mh ρ la lb out na nb) (ub:Up ρ lb) (hl:lb.take nb=lb.take k++l) (ha:∀x∈l,∀y∈la.take na,ρ y<=ρ x):Mh ρ la lb (out++l.reverse) na k:=by
 have ud:Up ρ (lb.take k++l):=by rw [<-hl];exact lh ub nb
 obtain⟨u1,u2,u3⟩:=List.pairwise_append.mp ud
 have sub:∀y∈l,y∈lb.take nb:=λy hy=>by rw [hl];exact cM _ hy
 have sub':∀y∈lb.take k,y∈lb.take nb:=λy hy=>by rw [hl];exact iH _ hy
 refine⟨?_,?_,λx hx y hy=>?_,λx hx y hy=>?_⟩
 ·have:=h.perm
  rw [hl] at this
  rw [lV,List.reverse_reverse]
  simpa only [bw] using this
 ·rw [lV,List.reverse_reverse]
  exact eC u2 h.up λx hx y hy=>h.geB y (List.mem_reverse.mp hy) x (sub x hx)
 ·rcases yaA.mp hx with hx|hx
  ·exact h.geA x hx y hy
  ·exact ha x (List.mem_reverse.mp hx) y hy
 ·rcases yaA.mp hx with hx|hx
  ·exact h.geB x hx y (sub' y hy)
  ·exact u3 y hy x (List.mem_reverse.mp hx)
theorem oP (a:Array Keyed) (n:Nat):(a.extract 0 n).toList=a.toList.take n:=by rw [jU,kC,Nat.sub_zero]
theorem yf (a b out:Array Keyed) (na nb:Nat):(gD a b out na nb).toList=a.toList.take na++(b.toList.take nb++out.toList.reverse):=by
 unfold gD
 rw [Array.toList_append,Array.toList_append,oP,oP,Array.toList_reverse,bw]
theorem qN2 (a b out:Array Keyed) (na nb:Nat):(j8 a b out na nb).toList=b.toList.take nb++(a.toList.take na++out.toList.reverse):=by
 unfold j8
 rw [Array.toList_append,Array.toList_append,oP,oP,Array.toList_reverse,bw]
theorem oT (I:In ρ P a b) {out:Array Keyed}{nb:Nat}(m:Mh ρ a.toList b.toList out.toList 0 nb):eJ ρ a.toList b.toList (gD a b out 0 nb).toList:=by
 have p:=m.perm
 rw [yf]
 refine⟨p,?_⟩
 rw [jn,iE]
 exact eC (lh I.ub nb) m.up λx hx y hy=>m.geB y (List.mem_reverse.mp hy) x hx
theorem qSo (I:In ρ P a b) {out:Array Keyed}{na:Nat}(m:Mh ρ a.toList b.toList out.toList na 0):eJ ρ a.toList b.toList (gD a b out na 0).toList:=by
 have p:=m.perm
 rw [yf]
 refine⟨p,?_⟩
 rw [jn,iE]
 exact eC (lh I.ua na) m.up λx hx y hy=>m.geA y (List.mem_reverse.mp hy) x hx
theorem oU (I:In ρ P a b) {out:Array Keyed}{na:Nat}(m:Mh ρ a.toList b.toList out.toList na 1):eJ ρ a.toList b.toList (j8 a b out na 1).toList:=by
 have p:=m.perm
 rw [qN2]
 obtain⟨x,hx⟩:=fj I.nb
 have e:b.toList.take 1=[x]:=by
  rw [List.take_one,List.head?_eq_getElem?,hx]
  rfl
 refine⟨?_,?_⟩
 ·refine List.Perm.trans ?_ p
  rw [<-bw,<-bw]
  exact List.Perm.append_right _ List.perm_append_comm
 ·refine eC (by rw [e];exact List.pairwise_singleton _ _) (eC (lh I.ua na) m.up λx hx y hy=>m.geA y (List.mem_reverse.mp hy) x hx) λu hu y hy=>?_
  rcases yaA.mp hy with hy|hy
  ·rw [e] at hu
   rw [yaB.mp hu]
   exact I.first x hx y (ku hy)
  ·exact m.geB y (List.mem_reverse.mp hy) u hu
theorem zN {l:List Keyed}{n:Nat}{x:Keyed}(hn:0<n) (h:l[n - 1]?=some x):l.take n=l.take (n - 1)++[x]:=by
 obtain⟨k,rfl⟩:∃k,n=k+1:=⟨n - 1,by omega⟩
 rw [Nat.add_sub_cancel] at h ⊢
 rw [qJ,h]
 rfl
theorem zM {l:List Keyed}{k n:Nat}(h:k<=n):l.take n=l.take k++(l.take n).drop k:=by
 have:=(gF k (l.take n)).symm
 rwa [List.take_take,Nat.min_eq_left h] at this
theorem mz {l:List Keyed}(h:Up ρ l) {n:Nat}{x y:Keyed}(hx:l[n - 1]?=some x) (hy:y∈l.take n):ρ y<=ρ x:=by
 obtain⟨j,hj⟩:=yay.mp hy
 rw [List.getElem?_take] at hj
 split at hj
 ·exact jc h (by omega) hj hx
 ·cases hj
theorem rZ (I:In ρ P a b) {out:Array Keyed}{na nb:Nat}{x:Keyed}(m:Mh ρ a.toList b.toList out.toList na nb) (hn:0<na) (hx:a.toList[na - 1]?=some x) (h:∀y∈b.toList.take nb,ρ y<=ρ x):Mh ρ a.toList b.toList (out.push x).toList (na - 1) nb:=by
 rw [Array.toList_push]
 exact m.appA (l:=[x]) I.ua (zN hn hx) λz hz=>by rw [yaB.mp hz];exact h
theorem xj (I:In ρ P a b) {out:Array Keyed}{na nb:Nat}{x:Keyed}(m:Mh ρ a.toList b.toList out.toList na nb) (hn:0<nb) (hx:b.toList[nb - 1]?=some x) (h:∀y∈a.toList.take na,ρ y<=ρ x):Mh ρ a.toList b.toList (out.push x).toList na (nb - 1):=by
 rw [Array.toList_push]
 exact m.appB (l:=[x]) I.ub (zN hn hx) λz hz=>by rw [yaB.mp hz];exact h
theorem xW (a:Array Keyed) (k n:Nat):(a.extract k n).reverse.toList=((a.toList.take n).drop k).reverse:=by
 rw [Array.toList_reverse,jU,List.drop_take]
theorem zr {l:List Keyed}{k n:Nat}{x:Keyed}(h:x∈(l.take n).drop k):∃j,k<=j/\j<n/\l[j]?=some x:=by
 obtain⟨j,hj⟩:=yay.mp h
 rw [List.getElem?_drop,List.getElem?_take] at hj
 split at hj
 ·exact⟨k+j,by omega,by assumption,hj⟩
 ·cases hj
theorem qQB (I:In ρ P a b) {out:Array Keyed}{na nb k:Nat}(m:Mh ρ a.toList b.toList out.toList na nb) (hk:k<=na) (h:∀j x,k<=j->j<na->a.toList[j]?=some x->∀y∈b.toList.take nb,ρ y<=ρ x):Mh ρ a.toList b.toList (out++(a.extract k na).reverse).toList k nb:=by
 rw [Array.toList_append,xW]
 exact m.appA I.ua (zM hk) λx hx=>by
  obtain⟨j,h1,h2,e⟩:=zr hx
  exact h j x h1 h2 e
theorem qQA (I:In ρ P a b) {out:Array Keyed}{na nb k:Nat}(m:Mh ρ a.toList b.toList out.toList na nb) (hk:k<=nb) (h:∀j x,k<=j->j<nb->b.toList[j]?=some x->∀y∈a.toList.take na,ρ y<=ρ x):Mh ρ a.toList b.toList (out++(b.extract k nb).reverse).toList na k:=by
 rw [Array.toList_append,xW]
 exact m.appB I.ub (zM hk) λx hx=>by
  obtain⟨j,h1,h2,e⟩:=zr hx
  exact h j x h1 h2 e
def V (ρ:Keyed->Nat) (a b:Array Keyed) (st:SortSt) (o:Option (Array Keyed)) (na nb:Nat) (out:Array Keyed) (n:Nat) (st':SortSt):Prop:=(∃g,st'=bM st g)/\match o with
 | some r=>eJ ρ a.toList b.toList r.toList
 | none=>Mh ρ a.toList b.toList out.toList na nb/\0<na/\1<nb/\na+nb+n<=a.size+b.size/\na<=a.size/\nb<=b.size
abbrev S6 (ρ:Keyed->Nat) (a b:Array Keyed) (st:SortSt) (n:Nat):ForInStep H6->SortSt->Prop:=λr st'=>match r with
 | .done c=>V ρ a b st c.1 c.2.1 c.2.2.1 c.2.2.2.1 n st'
 | .yield c=>c.1=none/\V ρ a b st c.1 c.2.1 c.2.2.1 c.2.2.2.1 n st'
abbrev S7 (ρ:Keyed->Nat) (a b:Array Keyed) (st:SortSt) (n:Nat):ForInStep H7->SortSt->Prop:=λr st'=>match r with
 | .done c=>V ρ a b st c.1 c.2.1 c.2.2.1 c.2.2.2.1 n st'
 | .yield c=>c.1=none/\V ρ a b st c.1 c.2.1 c.2.2.1 c.2.2.2.1 n st'
theorem qHW (hlt:cD prog w A E s kd ρ P) (I:In ρ P a b) {st st':SortSt}(hk:kindOf st=kd) (hg:∃g,st'=bM st g) {out:Array Keyed}{na nb ac bc mg n:Nat}(m:Mh ρ a.toList b.toList out.toList na nb) (ha:0<na) (hb:1<nb) (hn:na+nb+n<=a.size+b.size) (sa:na<=a.size) (sb:nb<=b.size) :
  wpS (model prog w) A E s (rz a b mg (none,na,nb,out,ac,bc)) (S6 ρ a b st (n+1)) st':=by
 obtain⟨x,hx⟩:=fj (a:=b) (i:=nb - 1) (by omega)
 obtain⟨y,hy⟩:=fj (a:=a) (i:=na - 1) (by omega)
 have px:=I.pb x (cj hx)
 have py:=I.pa y (cj hy)
 have hk':kindOf st'=kd:=by obtain⟨g,rfl⟩:=hg;exact hk
 unfold rz
 refine wpS_bind (cI hx (wpS_bind (cI hy (wpS_bind (hlt x y st' _ px py hk' ?_)))))
 dsimp only
 by_cases h:ρ x<ρ y
 ·rw [Qk h,Ql rfl]
  have m':=rZ I m ha hy λz hz=>aM (mz I.ub hx hz) (fb h)
  refine wpS_bind (cI hy ?_)
  by_cases e:na - 1=0
  ·rw [Ql (by simpa using e)]
   rw [e] at m' ⊢
   exact wpS_pure ⟨hg,oT I m'⟩
  ·rw [Qm (by simpa using e)]
   split
   ·exact wpS_pure ⟨hg,m',(by dsimp only;omega),hb,(by dsimp only;omega),(by dsimp only;omega),sb⟩
   ·exact wpS_pure ⟨rfl,hg,m',(by dsimp only;omega),hb,(by dsimp only;omega),(by dsimp only;omega),sb⟩
 ·rw [Qj h,Qm (by simp)]
  have m':=xj I m (by omega) hx λz hz=>aM (mz I.ua hy hz) (by omega)
  refine wpS_bind (cI hx ?_)
  by_cases e:nb - 1=1
  ·rw [Ql (by simpa using e)]
   rw [e] at m' ⊢
   exact wpS_pure ⟨hg,oU I m'⟩
  ·rw [Qm (by simpa using e)]
   split
   ·exact wpS_pure ⟨hg,m',ha,(by dsimp only;omega),(by dsimp only;omega),sa,(by dsimp only;omega)⟩
   ·exact wpS_pure ⟨rfl,hg,m',ha,(by dsimp only;omega),(by dsimp only;omega),sa,(by dsimp only;omega)⟩
theorem As (I:In ρ P a b) {st st':SortSt}(hg:∃g,st'=bM st g) {out:Array Keyed}{na nb ac bc mg n:Nat}{x:Keyed}(m:Mh ρ a.toList b.toList out.toList na nb) (ha:0<na) (hb:1<nb) (hn:na+nb+n<=a.size+b.size) (sa:na<=a.size) (sb:nb<=b.size) (hx:a.toList[na - 1]?=some x) (h:∀y∈b.toList.take nb,ρ y<=ρ x) :
  wpS (model prog w) A E s (pf a b out na nb mg ac bc) (S7 ρ a b st n) st':=by
 unfold pf
 have m':=rZ I m ha hx h
 refine wpS_bind (cI hx ?_)
 by_cases e:na - 1=0
 ·rw [Ql (by simpa using e)]
  rw [e] at m' ⊢
  exact wpS_pure ⟨hg,oT I m'⟩
 ·rw [Qm (by simpa using e)]
  split
  ·exact wpS_pure ⟨hg,m',(by dsimp only;omega),hb,(by dsimp only;omega),(by dsimp only;omega),sb⟩
  ·exact wpS_pure ⟨rfl,hg,m',(by dsimp only;omega),hb,(by dsimp only;omega),(by dsimp only;omega),sb⟩
theorem Aa (hlt:cD prog w A E s kd ρ P) (I:In ρ P a b) {st st':SortSt}(hk:kindOf st=kd) (hg:∃g,st'=bM st g) {out:Array Keyed}{na nb ac bc mg n:Nat}{x:Keyed}(m:Mh ρ a.toList b.toList out.toList na nb) (ha:0<na) (hb:1<nb) (hn:na+nb+n<=a.size+b.size) (sa:na<=a.size) (sb:nb<=b.size) (hx:b.toList[nb - 1]?=some x) (h:∀y∈a.toList.take na,ρ y<=ρ x) :
  wpS (model prog w) A E s (oi a b out na nb mg ac bc) (S7 ρ a b st n) st':=by
 unfold oi
 have m':=xj I m (by omega) hx h
 obtain⟨y,hy⟩:=fj (a:=a) (i:=na - 1) (by omega)
 have py:=I.pa y (cj hy)
 have hk':kindOf st'=kd:=by obtain⟨g,rfl⟩:=hg;exact hk
 refine wpS_bind (cI hx ?_)
 by_cases e:nb - 1=1
 ·rw [Ql (by simpa using e)]
  rw [e] at m' ⊢
  exact wpS_pure ⟨hg,oU I m'⟩
 ·rw [Qm (by simpa using e)]
  refine wpS_bind (cI hy (wpS_bind (lj (left:=true) hlt hk' py I.pb (by omega) (λi j u v _ hij _ hu hv=>jc I.ub hij hu hv) (by omega) λk k1 k2 k3=>?_)))
  simp only [if_true,cZ] at k2 k3
  dsimp only
  have rest:∀z∈b.toList.take k,ρ z<=ρ y:=λz hz=>by
   obtain⟨j,hj⟩:=yay.mp hz
   rw [List.getElem?_take] at hj
   split at hj
   ·exact fb (k2 j z (by assumption) hj)
   ·cases hj
  by_cases hk0:nb - 1 - k > 0
  ·rw [Ql hk0]
   have m2:=qQA (k:=k) I m' k1 λj u h1 h2 hu z hz=>aM (mz I.ua hy hz) (k3 j u h1 h2 hu)
   by_cases e1:k=1
   ·rw [Ql (by simpa using e1)]
    subst e1
    exact wpS_pure ⟨hg,oU I m2⟩
   ·rw [Qm (by simpa using e1)]
    by_cases e2:k=0
    ·rw [Ql (by simpa using e2)]
     subst e2
     exact wpS_pure ⟨hg,qSo I m2⟩
    ·rw [Qm (by simpa using e2)]
     exact As I hg m2 ha (by omega) (by omega) sa (by omega) hy rest
  ·rw [Qm hk0]
   obtain rfl:k=nb - 1:=by omega
   exact As I hg m' ha (by omega) (by omega) sa (by omega) hy rest
theorem Ap (hlt:cD prog w A E s kd ρ P) (I:In ρ P a b) {st st':SortSt}(hk:kindOf st=kd) (hg:∃g,st'=bM st g) {out:Array Keyed}{na nb ac bc mg n:Nat}(m:Mh ρ a.toList b.toList out.toList na nb) (ha:0<na) (hb:1<nb) (hn:na+nb+n<=a.size+b.size) (sa:na<=a.size) (sb:nb<=b.size) :
  wpS (model prog w) A E s (oS a b out na nb mg ac bc) (S7 ρ a b st n) st':=by
 unfold oS
 obtain⟨x,hx⟩:=fj (a:=b) (i:=nb - 1) (by omega)
 have px:=I.pb x (cj hx)
 rw [qd]
 refine wpS_bind (wpS_modify ?_)
 have hg:∃g,bM st' mg=bM st g:=by obtain⟨g,rfl⟩:=hg;exact⟨mg,rfl⟩
 generalize bM st' mg=st2 at hg
 have hk':kindOf st2=kd:=by obtain⟨g,rfl⟩:=hg;exact hk
 refine wpS_bind (cI hx (wpS_bind (lj (left:=false) hlt hk' px I.pa (by omega) (λi j u v _ hij _ hu hv=>jc I.ua hij hu hv) (by omega) λk k1 k2 k3=>?_)))
 simp only [fB,if_false,cZ] at k2 k3
 dsimp only
 have rest:∀z∈a.toList.take k,ρ z<=ρ x:=λz hz=>by
  obtain⟨j,hj⟩:=yay.mp hz
  rw [List.getElem?_take] at hj
  split at hj
  ·exact k2 j z (by assumption) hj
  ·cases hj
 by_cases hk0:na - k > 0
 ·rw [Ql hk0]
  have m2:=qQB (k:=k) I m k1 λj u h1 h2 hu z hz=>aM (mz I.ub hx hz) (fb (k3 j u h1 h2 hu))
  by_cases e2:k=0
  ·rw [Ql (by simpa using e2)]
   subst e2
   exact wpS_pure ⟨hg,oT I m2⟩
  ·rw [Qm (by simpa using e2)]
   exact Aa hlt I hk hg m2 (by omega) hb (by omega) (by omega) sb hx rest
 ·rw [Qm hk0]
  obtain rfl:k=na:=by omega
  exact Aa hlt I hk hg m ha hb hn sa sb hx rest
theorem qIq (hlt:cD prog w A E s kd ρ P) (I:In ρ P a b) {st st':SortSt}(hk:kindOf st=kd) (hg:∃g,st'=bM st g) {out:Array Keyed}{na nb ac bc mg n:Nat}(m:Mh ρ a.toList b.toList out.toList na nb) (ha:0<na) (hb:1<nb) (hn:na+nb+n<=a.size+b.size) (sa:na<=a.size) (sb:nb<=b.size) :
  wpS (model prog w) A E s (rj a b (none,na,nb,out,mg,ac,bc)) (S7 ρ a b st n) st':=by
 unfold rj
 split
 ·exact Ap hlt I hk hg m ha hb hn sa sb
 ·exact Ap hlt I hk hg m ha hb hn sa sb
theorem qHV (hlt:cD prog w A E s kd ρ P) (I:In ρ P a b) {st st':SortSt}(hk:kindOf st=kd) (hg:∃g,st'=bM st g) {out:Array Keyed}{na nb mg n:Nat}(m:Mh ρ a.toList b.toList out.toList na nb) (ha:0<na) (hb:1<nb) (hn:na+nb+n<=a.size+b.size) (sa:na<=a.size) (sb:nb<=b.size) :
  wpS (model prog w) A E s (oq a b (none,na,nb,out,mg)) (λr st'=>match r with|.done c=>V ρ a b st c.1 c.2.1 c.2.2.1 c.2.2.2.1 (n+1) st'/\c.1≠none|.yield c=>c.1=none/\V ρ a b st c.1 c.2.1 c.2.2.1 c.2.2.2.1 (n+1) st') st':=by
 unfold oq
 refine wpS_bind (wpS_mono (wpS_forRange (I:=λ(x:Nat) (c:H6) (st':SortSt)=>c.1=none/\V ρ a b st c.1 c.2.1 c.2.2.1 c.2.2.2.1 (n+x) st') (Q:=λ(c:H6) (st':SortSt)=>V ρ a b st c.1 c.2.1 c.2.2.1 c.2.2.2.1 (n+1) st') ?step ?fin ⟨rfl,hg,m,ha,hb,hn,sa,sb⟩) ?post)
 case fin =>
  rintro c st' ⟨h1,h2,h3⟩
  refine⟨h2,?_⟩
  rw [h1] at h3 ⊢
  obtain⟨g1,g2,g3,g4,g5,g6⟩:=h3
  exact⟨g1,g2,g3,by omega,g5,g6⟩
 case step =>
  rintro x ⟨o,na,nb,out,ac,bc⟩ st' _ hx ⟨h1,h2,h3⟩
  obtain rfl:o=none:=h1
  obtain⟨g1,g2,g3,g4,g5,g6⟩:=h3
  refine wpS_mono (qHW hlt I hk h2 g1 g2 g3 g4 g5 g6) λr st2 hr=>?_
  cases r with
  | done c =>
   obtain⟨q1,q2⟩:=hr
   refine⟨q1,?_⟩
   cases e:c.1 with
   | some r=>rw [e] at q2;exact q2
   | none =>
    rw [e] at q2
    obtain⟨u1,u2,u3,u4,u5,u6⟩:=q2
    exact⟨u1,u2,u3,by omega,u5,u6⟩
  | yield c=>exact hr
 case post =>
  rintro⟨o,na,nb,out,ac,bc⟩ st' ⟨h2,h3⟩
  dsimp only
  cases o with
  | some r=>exact wpS_pure ⟨⟨h2,h3⟩,by simp⟩
  | none =>
   obtain⟨g1,g2,g3,g4,g5,g6⟩:=h3
   refine wpS_bind (wpS_lift (wpAny_rule ⟨rfl,?_⟩))
   refine wpS_bind (wpS_mono (wpS_forRange (I:=λ(x:Nat) (c:H7) (st':SortSt)=>c.1=none/\V ρ a b st c.1 c.2.1 c.2.2.1 c.2.2.2.1 (n+1) st') (Q:=λ(c:H7) (st':SortSt)=>V ρ a b st c.1 c.2.1 c.2.2.1 c.2.2.2.1 (n+1) st') ?_ (λc st' h=>h.2) ⟨rfl,h2,g1,g2,g3,g4,g5,g6⟩) ?_)
   ·rintro x ⟨o,na,nb,out,mg,ac,bc⟩ st' _ hx ⟨h1,h2,h3⟩
    obtain rfl:o=none:=h1
    obtain⟨g1,g2,g3,g4,g5,g6⟩:=h3
    refine wpS_mono (qIq hlt I hk h2 g1 g2 g3 g4 g5 g6) λr st2 hr=>?_
    cases r with
    | done c=>exact hr
    | yield c=>exact hr
   ·rintro⟨o,na,nb,out,mg,ac,bc⟩ st' ⟨h2,h3⟩
    dsimp only
    cases o with
    | some r=>exact wpS_pure ⟨⟨h2,h3⟩,by simp⟩
    | none =>
     rw [qd]
     refine wpS_bind (wpS_modify (wpS_pure ⟨rfl,?_,h3⟩))
     obtain⟨g,rfl⟩:=h2
     exact⟨_,rfl⟩
theorem qOA (hlt:cD prog w A E s kd ρ P) (I:In ρ P a b) {st:SortSt}(hk:kindOf st=kd) {Q:Array Keyed->SortSt->Prop}(h:∀r g,eJ ρ a.toList b.toList r.toList->Q r (bM st g)):wpS (model prog w) A E s (pZ a b) Q st:=by
 have fin:∀{r st'},(∃g,st'=bM st g)->eJ ρ a.toList b.toList r.toList->Q r st':=λ⟨g,e⟩ hr=>by rw [e];exact h _ g hr
 have hg:∃g,st=bM st g:=⟨gallopOf st,rfl⟩
 have na:=I.na
 have nb:=I.nb
 rw [qSn]
 unfold uO
 refine wpS_bind (wpS_lift (wpAny_rule ⟨rfl,?_⟩))
 obtain⟨x,hx⟩:=fj (a:=a) (i:=a.size - 1) (by omega)
 refine wpS_bind (cI hx ?_)
 have m0:Mh ρ a.toList b.toList (#[]:Array Keyed).toList a.size b.size:=⟨by rw [dF (by rw [cw];exact ar _),dF (by rw [cw];exact ar _)];simp,by simp,λx hx=>by simp at hx,λx hx=>by simp at hx⟩
 have m:Mh ρ a.toList b.toList (#[x]:Array Keyed).toList (a.size - 1) b.size:=rZ I m0 na hx λy hy=>I.last x hx y (ku hy)
 by_cases e1:a.size - 1=0
 ·rw [Ql (by simpa using e1)]
  rw [e1] at m ⊢
  exact wpS_pure (fin hg (oT I m))
 ·rw [Qm (by simpa using e1)]
  by_cases e2:b.size=1
  ·rw [Ql (by simpa using e2)]
   rw [e2] at m ⊢
   exact wpS_pure (fin hg (oU I m))
  ·rw [Qm (by simpa using e2)]
   refine wpS_bind (wpS_get ?_)
   refine wpS_bind (wpS_mono (wpS_forRange (I:=λ(x:Nat) (c:H5) (st':SortSt)=>c.1=none/\V ρ a b st c.1 c.2.1 c.2.2.1 c.2.2.2.1 x st') (Q:=λ(c:H5) (st':SortSt)=>V ρ a b st c.1 c.2.1 c.2.2.1 c.2.2.2.1 0 st'/\c.1≠none) ?_ ?_ ⟨rfl,hg,m,(by dsimp only;omega),(by dsimp only;omega),(by dsimp only;omega),(by dsimp only;omega),(by dsimp only;omega)⟩) ?_)
   ·rintro x ⟨o,na,nb,out,mg⟩ st' _ hx ⟨h1,h2,h3⟩
    obtain rfl:o=none:=h1
    obtain⟨g1,g2,g3,g4,g5,g6⟩:=h3
    refine wpS_mono (qHV hlt I hk h2 g1 g2 g3 g4 g5 g6) λr st2 hr=>?_
    cases r with
    | done c =>
     obtain⟨⟨q1,q2⟩,q3⟩:=hr
     refine⟨⟨q1,?_⟩,q3⟩
     cases e:c.1 with
     | some r=>rw [e] at q2;exact q2
     | none=>exact Qn e q3
    | yield c=>exact hr
   ·rintro⟨o,na,nb,out,mg⟩ st' ⟨h1,h2,h3⟩
    obtain rfl:o=none:=h1
    obtain⟨g1,g2,g3,g4,g5,g6⟩:=h3
    omega
   ·rintro⟨o,na,nb,out,mg⟩ st' ⟨⟨h2,h3⟩,h4⟩
    cases o with
    | none=>exact Qn rfl h4
    | some r=>exact wpS_pure (fin h2 h3)
end
end Dw.So
namespace Dw.So
open PySem PyProof.Rows
theorem qFp (i:Nat):mergeAt' i=(do
 let s <-get
 let (some (sa,na,power),some (sb,nb,_)):=((pendingOf s)[i]?,(pendingOf s)[i+1]?)|unsupported "internal:list.sort.pending"
 set (setPending s (((pendingOf s).setIfInBounds i (sa,na+nb,power)).eraseIdxIfInBounds (i+1)))
 let some k <-fR false (<-elem' (arrOf s) sb) (arrOf s) sa na 0|return false
 let (sa,na):=(sa+k,na - k)
 if na == 0 then return true
 let some nb <-fR true (<-elem' (arrOf s) (sa+na - 1)) (arrOf s) sb nb (nb - 1)|return false
 if nb == 0 then return true
 let x:=(arrOf s).extract sa sb
 let y:=(arrOf s).extract sb (sb+nb)
 let merged <-if na<=nb then p0 x y else pZ x y
 modify λs=>setArr s (merged.toList.zipIdx.foldl (λa (p,j)=>a.setIfInBounds (sa+j) p) (arrOf s))
 return (failedOf (<-get)).isNone):=rfl
theorem yN:∀(m:List Keyed) (a:Array Keyed) (sa d:Nat),sa+d+m.length<=a.size->((m.zipIdx d).foldl (λ(a:Array Keyed) (q:Keyed×Nat)=>a.setIfInBounds (sa+q.2) q.1) a).toList=a.toList.take (sa+d)++(m++a.toList.drop (sa+d+m.length))
 | [],a,sa,d,h=>by simp
 | x::m,a,sa,d,h=>by
  rw [dG] at h
  have ih:=yN m (a.setIfInBounds (sa+d) x) sa (d+1) (by rw [Array.size_setIfInBounds];omega)
  show ((m.zipIdx (d+1)).foldl _ (a.setIfInBounds (sa+d) x)).toList=_
  rw [ih,Array.toList_setIfInBounds]
  have hl:sa+d<a.toList.length:=by rw [cw];omega
  rw [List.drop_set_of_lt (by omega),dG,show sa+(d+1)=sa+d+1 by omega,List.take_set,qJ,cz hl]
  rw [show sa+d+1+m.length=sa+d+(m.length+1) by omega]
  have:(List.take (sa+d) a.toList++(some a.toList[sa+d]).toList).set (sa+d) x=List.take (sa+d) a.toList++[x]:=by
   rw [List.set_append_right _ _ (by rw [eL];omega),eL,Nat.min_eq_left (by omega),nI]
   rfl
  rw [this]
  simp
section
variable {prog:Program}{w:World}{A:Around}{E:Value->Shared->Prop}{s:Shared}{kd:SortKind}{ρ:Keyed->Nat}{P:Keyed->Prop}
theorem x6 {p u t:List Keyed}(j:Nat) (h:j<u.length):(p++(u++t))[p.length+j]?=u[j]?:=by
 rw [gE (by omega),f6,jq h]
theorem qMh {st st':SortSt}{Q:PUnit->SortSt->Prop}(h:Q ⟨⟩ st'):wpS (model prog w) A E s (set st':StateT SortSt Sem PUnit) Q st:=by
 unfold wpS
 rw [StateT.run_set]
 exact Qd ⟨rfl,h⟩
theorem qE8 (hlt:cD prog w A E s kd ρ P) {st:SortSt}{i na nb pw pw2:Nat}{p u v q:List Keyed}{Q:Bool->SortSt->Prop}(hk:kindOf st=kd) (hf:failedOf st=none) (hp:(pendingOf st)[i]?=some (p.length,u.length,pw)) (hp2:(pendingOf st)[i+1]?=some (p.length+u.length,v.length,pw2))
  (hL:(arrOf st).toList=p++(u++(v++q))) (hP:∀x∈(arrOf st).toList,P x) (hu:0<u.length) (hv:0<v.length) (uu:Up ρ u) (uv:Up ρ v)
  (h:∀r xs g,xs.toList=p++(r++q)->r.Perm (u++v)->Up ρ r->Q true (SortSt.mk' (kindOf st) xs (((pendingOf st).setIfInBounds i (p.length,u.length+v.length,pw)).eraseIdxIfInBounds (i+1)) g none)) :
  wpS (model prog w) A E s (mergeAt' i) Q st:=by
 rw [qFp]
 refine wpS_bind (wpS_get ?_)
 rw [hp,hp2]
 dsimp only
 refine wpS_bind (qMh ?_)
 have gu:∀j,j<u.length->(arrOf st).toList[p.length+j]?=u[j]?:=λj hj=>by rw [hL];exact x6 j hj
 have gv:∀j,j<v.length->(arrOf st).toList[p.length+u.length+j]?=v[j]?:=λj hj=>by
  rw [hL,<-bw,<-bf]
  exact x6 j hj
 have hsz:(arrOf st).size=p.length+(u.length+(v.length+q.length)):=by rw [<-cw,hL];simp
 obtain⟨v0,ev0⟩:∃x,v[0]?=some x:=⟨_,cz hv⟩
 have ev0':(arrOf st).toList[p.length+u.length]?=some v0:=by have:=gv 0 hv;rw [Nat.add_zero] at this;rw [this,ev0]
 generalize hst:setPending st (((pendingOf st).setIfInBounds i (p.length,u.length+v.length,pw)).eraseIdxIfInBounds (i+1))=st1
 have hk1:kindOf st1=kd:=by rw [<-hst];exact hk
 have whole:Up ρ (u++v)->Q true st1:=λz=>by
  have:=h (u++v) (arrOf st) (gallopOf st) (by rw [hL,bw]) (List.Perm.refl _) z
  rw [<-hf] at this
  rw [<-hst]
  exact this
 refine wpS_bind (cI ev0' (wpS_bind (lj (left:=false) hlt hk1 (hP _ (cj ev0')) hP (by omega) (λi j x y h1 h2 h3 hx hy=>?_) hu λk k1 k2 k3=>?_)))
 ·have e1:=gu (i - p.length) (by omega)
  have e2:=gu (j - p.length) (by omega)
  rw [show p.length+(i - p.length)=i by omega,hx] at e1
  rw [show p.length+(j - p.length)=j by omega,hy] at e2
  exact jc uu (by omega) e1.symm e2.symm
 simp only [fB,if_false] at k2 k3
 have k2:∀x∈u.take k,ρ x<=ρ v0:=λx hx=>by
  obtain⟨j,hj⟩:=yay.mp hx
  rw [List.getElem?_take] at hj
  split at hj
  ·exact k2 j x (by assumption) (by rw [gu j (by omega),hj])
  ·cases hj
 have k3:∀x∈u.drop k,ρ v0<ρ x:=λx hx=>by
  obtain⟨j,hj⟩:=yay.mp hx
  rw [List.getElem?_drop] at hj
  have:k+j<u.length:=(yao.mp hj).1
  exact k3 (k+j) x (by omega) this (by rw [gu _ this,hj])
 have v0le:∀y∈v,ρ v0<=ρ y:=λy hy=>mW uv ev0 (by rw [kC];exact hy)
 dsimp only
 by_cases e:u.length - k=0
 ·rw [Ql (by simpa using e)]
  refine wpS_pure (whole (eC uu uv λx hx y hy=>aM (k2 x ?_) (v0le y hy)))
  rw [dF (by omega)]
  exact hx
 rw [Qm (by simpa using e)]
 obtain⟨z,ez⟩:∃x,u[u.length - 1]?=some x:=⟨_,cz (by omega)⟩
 have ez':(arrOf st).toList[p.length+k+(u.length - k) - 1]?=some z:=by rw [show p.length+k+(u.length - k) - 1=p.length+(u.length - 1) by omega,gu _ (by omega),ez]
 have zge:∀y∈u,ρ y<=ρ z:=λy hy=>mz uu (n:=u.length) ez (by rw [List.take_length];exact hy)
 refine wpS_bind (cI ez' (wpS_bind (lj (left:=true) hlt hk1 (hP _ (cj ez')) hP (by omega) (λi j x y h1 h2 h3 hx hy=>?_) (by omega) λn n1 n2 n3=>?_)))
 ·have e1:=gv (i - (p.length+u.length)) (by omega)
  have e2:=gv (j - (p.length+u.length)) (by omega)
  rw [show p.length+u.length+(i - (p.length+u.length))=i by omega,hx] at e1
  rw [show p.length+u.length+(j - (p.length+u.length))=j by omega,hy] at e2
  exact jc uv (by omega) e1.symm e2.symm
 simp only [if_true] at n2 n3
 have n2:∀x∈v.take n,ρ x<ρ z:=λx hx=>by
  obtain⟨j,hj⟩:=yay.mp hx
  rw [List.getElem?_take] at hj
  split at hj
  ·exact n2 j x (by assumption) (by rw [gv j (by omega),hj])
  ·cases hj
 have n3:∀x∈v.drop n,ρ z<=ρ x:=λx hx=>by
  obtain⟨j,hj⟩:=yay.mp hx
  rw [List.getElem?_drop] at hj
  have:n+j<v.length:=(yao.mp hj).1
  exact n3 (n+j) x (by omega) this (by rw [gv _ this,hj])
 dsimp only
 by_cases e2:n=0
 ·rw [Ql (by simpa using e2)]
  subst e2
  exact wpS_pure (whole (eC uu uv λx hx y hy=>aM (zge x hx) (n3 y (by rw [kC];exact hy))))
 rw [Qm (by simpa using e2)]
 have d1:∀m,(arrOf st).toList.drop (p.length+m)=(u++(v++q)).drop m:=λm=>by rw [hL,List.drop_append,List.drop_eq_nil_of_le (by omega),f6,iE]
 have d2:∀m,(arrOf st).toList.drop (p.length+u.length+m)=(v++q).drop m:=λm=>by rw [show p.length+u.length+m=p.length+(u.length+m) by omega,d1,List.drop_append,List.drop_eq_nil_of_le (by omega),f6,iE]
 have hx:((arrOf st).extract (p.length+k) (p.length+u.length)).toList=u.drop k:=by
  rw [jU,d1,List.drop_append,show k - u.length=0 by omega,kC,List.take_append_of_le_length (by rw [hJ];omega),dF (by rw [hJ];omega)]
 have hy:((arrOf st).extract (p.length+u.length) (p.length+u.length+n)).toList=v.take n:=by
  have:=d2 0
  rw [Nat.add_zero,kC] at this
  rw [jU,this,f6,List.take_append_of_le_length n1]
 have pu:∀x∈u.drop k,P x:=λx hx'=>hP x (by rw [hL];exact cM _ (iH _ (kv hx')))
 have pv:∀x∈v.take n,P x:=λx hx'=>hP x (by rw [hL];exact cM _ (cM _ (iH _ (ku hx'))))
 have sx:((arrOf st).extract (p.length+k) (p.length+u.length)).size=u.length - k:=by rw [<-cw,hx,hJ]
 have sy:((arrOf st).extract (p.length+u.length) (p.length+u.length+n)).size=n:=by rw [<-cw,hy,eL];omega
 have I:In ρ P ((arrOf st).extract (p.length+k) (p.length+u.length)) ((arrOf st).extract (p.length+u.length) (p.length+u.length+n)):=by
  refine⟨?_,?_,?_,?_,by omega,by omega,?_,?_⟩
  ·rw [hx];exact List.Pairwise.drop uu
  ·rw [hy];exact List.Pairwise.take uv
  ·rw [hx];exact pu
  ·rw [hy];exact pv
  ·rw [sx,hx,hy]
   intro z' hz' y hy'
   rw [List.getElem?_drop,show k+(u.length - k - 1)=u.length - 1 by omega,ez] at hz'
   cases hz'
   exact fb (n2 y hy')
  ·rw [hy,hx]
   intro x' hx' y hy'
   rw [List.getElem?_take,Ql (by omega),ev0] at hx'
   cases hx'
   exact fb (k3 y hy')
 have fin:∀(m:Array Keyed) (g:Nat),eJ ρ ((arrOf st).extract (p.length+k) (p.length+u.length)).toList ((arrOf st).extract (p.length+u.length) (p.length+u.length+n)).toList m.toList ->
   wpS (model prog w) A E s (do
    modify λs=>setArr s (m.toList.zipIdx.foldl (λa (q,j)=>a.setIfInBounds (p.length+k+j) q) (arrOf s))
    return (failedOf (<-get)).isNone) Q (bM st1 g):=by
  intro m g hm
  rw [hx,hy] at hm
  obtain⟨m1,m2⟩:=hm
  have ml:m.toList.length=u.length - k+n:=by rw [m1.length_eq,bf,hJ,eL];omega
  refine wpS_bind (wpS_modify (wpS_bind (wpS_get (wpS_pure ?_))))
  have pa:=yN m.toList (arrOf st) (p.length+k) 0 (by omega)
  rw [Nat.add_zero,ml,show p.length+k+(u.length - k+n)=p.length+u.length+n by omega,d2,List.drop_append_of_le_length n1] at pa
  have tk:(arrOf st).toList.take (p.length+k)=p++u.take k:=by
   rw [hL,List.take_append,dF (by omega),f6,List.take_append_of_le_length k1]
  rw [tk] at pa
  have mu:∀x∈m.toList,x∈u.drop k∨x∈v.take n:=λx hx'=>yaA.mp (m1.mem_iff.mp hx')
  have main:=h (u.take k++(m.toList++v.drop n)) _ g (pa.trans (by simp only [bw])) ?_ ?_
  ·subst hst
   rw [show (failedOf _).isNone=true from by show (failedOf st).isNone=true;rw [hf];rfl]
   rw [<-hf] at main
   exact main
  ·have e1:(u++v).Perm (u.take k++((u.drop k++v.take n)++v.drop n)):=by
    rw [<-bw,<-bw,gF,bw,gF]
   exact (List.Perm.append_left _ (List.Perm.append_right _ m1)).trans e1.symm
  ·refine eC (lh uu k) (eC m2 (List.Pairwise.drop uv) λx hx' y hy'=>?_) λx hx' y hy'=>?_
   ·rcases mu x hx' with hx'|hx'
    ·exact aM (zge x (kv hx')) (n3 y hy')
    ·have up':Up ρ (v.take n++v.drop n):=by rw [gF];exact uv
     exact (List.pairwise_append.mp up').2.2 x hx' y hy'
   ·have xv:=k2 x hx'
    rcases yaA.mp hy' with hy'|hy'
    ·rcases mu y hy' with hy'|hy'
     ·exact aM xv (fb (k3 y hy'))
     ·exact aM xv (v0le y (ku hy'))
    ·exact aM xv (v0le y (kv hy'))
 by_cases hle:u.length - k<=n
 ·rw [Ql hle]
  exact wpS_bind (qOz hlt I hk1 λm g hm=>fin m g hm)
 ·rw [Qm hle]
  exact wpS_bind (qOA hlt I hk1 λm g hm=>fin m g hm)
end
end Dw.So
namespace Dw.So
open PySem PyProof.Rows
def t3 (lo nrem n:Nat):StateT SortSt Sem (Option Nat):=do
 reverseSlice' lo (lo+n)
 let mut n:=n
 for _ in [n:nrem] do
  let some smaller <-ltAt' (lo+n) (lo+n - 1)|return none
  if smaller then break
  n:=n+1
 return some n
def t2 (lo nrem n0:Nat):StateT SortSt Sem (Option Nat):=do
 rule "list.sort.descending-run"
 let mut n:=n0+1
 let mut neq:=0
 for _ in [n:nrem] do
  let some smaller <-ltAt' (lo+n) (lo+n - 1)|return none
  if smaller then
   if neq > 0 then reverseSlice' (lo+n - (neq+1)) (lo+n)
   neq:=0
  else
   let some larger <-ltAt' (lo+n - 1) (lo+n)|return none
   if larger then break
   neq:=neq+1
  n:=n+1
 if neq > 0 then
  reverseSlice' (lo+n - (neq+1)) (lo+n)
  t3 lo nrem n
 else t3 lo nrem n
def t1 (lo nrem:Nat):StateT SortSt Sem (Option Nat):=do
 let mut n:=1
 for _ in [1:nrem] do
  let some smaller <-ltAt' (lo+n) (lo+n - 1)|return none
  if smaller then break
  n:=n+1
 if n == nrem then return some n
 if n > 1 then
  let some rose <-ltAt' lo (lo+n - 1)|return none
  if rose then return some n
  reverseSlice' lo (lo+n)
  t2 lo nrem n
 else t2 lo nrem n
theorem qTM (lo nrem:Nat):countRun' lo nrem=t1 lo nrem:=by
 rw [countRun'_eq]
 unfold t1
 refine bc λc=>?_
 obtain⟨o,n⟩:=c
 cases o with
 | some r=>rfl
 | none =>
  dsimp only
  by_cases h1:(n == nrem)=true
  ·rw [Ql h1,Ql h1]
  rw [Qm h1,Qm h1]
  by_cases h2:n > 1
  ·rw [Ql h2,Ql h2]
   refine bc λx=>?_
   cases x with
   | none=>rfl
   | some rose =>
    dsimp only
    cases rose with
    | true=>rfl
    | false =>
     simp only [fB,if_false]
     refine bc λ_=>?_
     unfold t2
     refine bc λ_=>?_
     refine bc λd=>?_
     obtain⟨d1,d2,d3⟩:=d
     cases d1 with
     | some r=>rfl
     | none =>
      dsimp only
      by_cases h3:d3 > 0
      ·rw [Ql h3,Ql h3]
       refine bc λ_=>?_
       unfold t3
       refine bc λ_=>?_
       refine bc λe=>?_
       obtain⟨e1,e2⟩:=e
       cases e1<;>rfl
      ·rw [Qm h3,Qm h3]
       unfold t3
       refine bc λ_=>?_
       refine bc λe=>?_
       obtain⟨e1,e2⟩:=e
       cases e1<;>rfl
  ·rw [Qm h2,Qm h2]
   unfold t2
   refine bc λ_=>?_
   refine bc λd=>?_
   obtain⟨d1,d2,d3⟩:=d
   cases d1 with
   | some r=>rfl
   | none =>
    dsimp only
    by_cases h3:d3 > 0
    ·rw [Ql h3,Ql h3]
     refine bc λ_=>?_
     unfold t3
     refine bc λ_=>?_
     refine bc λe=>?_
     obtain⟨e1,e2⟩:=e
     cases e1<;>rfl
    ·rw [Qm h3,Qm h3]
     unfold t3
     refine bc λ_=>?_
     refine bc λe=>?_
     obtain⟨e1,e2⟩:=e
     cases e1<;>rfl
section
variable {prog:Program}{w:World}{A:Around}{E:Value->Shared->Prop}{s:Shared}{kd:SortKind}{ρ:Keyed->Nat}{P:Keyed->Prop}
noncomputable def rk (ρ:Keyed->Nat) (xs:Array Keyed) (i:Nat):Nat:=match xs[i]? with
 | some p=>ρ p
 | none=>0
theorem mU {xs ys:Array Keyed}{i j:Nat}(h:xs[i]?=ys[j]?):rk ρ xs i=rk ρ ys j:=by unfold rk;rw [h]
theorem mZ {xs:Array Keyed}{i j:Nat}(hj:j<=xs.size) (k:Nat):rk ρ (mirror xs i j ((j - i) / 2)) k=if i<=k/\k<j then rk ρ xs (i+j - 1 - k) else rk ρ xs k:=by
 have e:=getElem?_mirror_all (i:=i) hj k
 by_cases h1:i<=k/\k<j
 ·rw [Ql h1] at e ⊢;exact mU e
 ·rw [Qm h1] at e ⊢;exact mU e
theorem Ad {xs:Array Keyed}{src d:Nat}(hs:src<xs.size) (hd:d<=src) (k:Nat):rk ρ (bubble xs src d) k=if k=src - d then rk ρ xs src else if src - d<k/\k<=src then rk ρ xs (k - 1) else rk ρ xs k:=by
 have e:=getElem?_bubble hs d hd k
 by_cases h1:k=src - d
 ·rw [Ql h1] at e ⊢;exact mU e
 ·rw [Qm h1] at e ⊢
  by_cases h2:src - d<k/\k<=src
  ·rw [Ql h2] at e ⊢;exact mU e
  ·rw [Qm h2] at e ⊢;exact mU e
structure Sg (st:SortSt) (lo:Nat) (xs:Array Keyed):Prop where
 perm:xs.Perm (arrOf st)
 low:∀k,k<lo->xs[k]?=(arrOf st)[k]?
theorem Sg.size {st:SortSt}{lo:Nat}{xs:Array Keyed}(h:Sg st lo xs):xs.size=(arrOf st).size:=h.perm.size_eq
theorem Sg.refl (st:SortSt) (lo:Nat):Sg st lo (arrOf st):=⟨Array.Perm.refl _,λ_ _=>rfl⟩
theorem Sg.mir {st:SortSt}{lo i j:Nat}{xs:Array Keyed}(h:Sg st lo xs) (hi:lo<=i) (hj:j<=xs.size):Sg st lo (mirror xs i j ((j - i) / 2)):=
 ⟨(mirror_perm _ _ _ _).trans h.perm,λk hk=>by rw [getElem?_mirror_all hj,Qm (by omega)];exact h.low k hk⟩
theorem Sg.bub {st:SortSt}{lo src d:Nat}{xs:Array Keyed}(h:Sg st lo xs) (hs:src<xs.size) (hd:lo+d<=src):Sg st lo (bubble xs src d):=
 ⟨(bubble_perm _ _ _).trans h.perm,λk hk=>by rw [getElem?_bubble hs d (by omega),Qm (by omega),Qm (by omega)];exact h.low k hk⟩
theorem ll (hlt:cD prog w A E s kd ρ P) {st:SortSt}{lo i j:Nat}{xs:Array Keyed}{Q:Option Bool->SortSt->Prop}(hk:kindOf st=kd) (hP:∀x∈(arrOf st).toList,P x) (g:Sg st lo xs) (hi:i<xs.size) (hj:j<xs.size)
  (h:Q (some (decide (rk ρ xs i<rk ρ xs j))) (setArr st xs)):wpS (model prog w) A E s (ltAt' i j) Q (setArr st xs):=by
 have hm:∀x∈xs.toList,P x:=λx hx=>hP x ((Array.perm_iff_toList_perm.mp g.perm).mem_iff.mp hx)
 obtain⟨x,ex⟩:=fj hi
 obtain⟨y,ey⟩:=fj hj
 have ex':xs[i]?=some x:=by rw [<-iU];exact ex
 have ey':xs[j]?=some y:=by rw [<-iU];exact ey
 unfold rk at h
 rw [ex',ey'] at h
 rw [ltAt'_eq]
 refine wpS_bind (wpS_get ?_)
 show wpS _ _ _ _ (do let x <-elem' xs i;let y <-elem' xs j;lt' x y) Q _
 exact wpS_bind (cI ex (wpS_bind (cI ey (hlt x y _ _ (hm x (cj ex)) (hm y (cj ey)) hk h))))
def Inc (ρ:Keyed->Nat) (xs:Array Keyed) (lo hi:Nat):Prop:=∀i j,lo<=i->i<=j->j<hi->rk ρ xs i<=rk ρ xs j
def Dec (ρ:Keyed->Nat) (xs:Array Keyed) (lo hi:Nat):Prop:=∀i j,lo<=i->i<=j->j<hi->rk ρ xs j<=rk ρ xs i
theorem Inc.next {xs:Array Keyed}{lo n:Nat}(h:Inc ρ xs lo (lo+n)) (hn:0<n) (hl:rk ρ xs (lo+n - 1)<=rk ρ xs (lo+n)):Inc ρ xs lo (lo+(n+1)):=λi j h1 h2 h3=>by
 by_cases e:j=lo+n
 ·subst e
  by_cases e':i=lo+n
  ·rw [e'];exact ar _
  ·exact aM (h i (lo+n - 1) h1 (by omega) (by omega)) hl
 ·exact h i j h1 h2 (by omega)
theorem Dec.next {xs:Array Keyed}{lo n:Nat}(h:Dec ρ xs lo (lo+n)) (hn:0<n) (hl:rk ρ xs (lo+n)<=rk ρ xs (lo+n - 1)):Dec ρ xs lo (lo+(n+1)):=λi j h1 h2 h3=>by
 by_cases e:j=lo+n
 ·subst e
  by_cases e':i=lo+n
  ·rw [e'];exact ar _
  ·exact aM hl (h i (lo+n - 1) h1 (by omega) (by omega))
 ·exact h i j h1 h2 (by omega)
theorem qNZ {xs:Array Keyed}{lo n:Nat}(hs:lo+n<=xs.size) (h:Dec ρ xs lo (lo+n)):Inc ρ (mirror xs lo (lo+n) ((lo+n - lo) / 2)) lo (lo+n):=λi j h1 h2 h3=>by
 rw [mZ hs,mZ hs,Ql ⟨h1,by omega⟩,Ql ⟨by omega,h3⟩]
 exact h _ _ (by omega) (by omega) (by omega)
def uQ (ρ:Keyed->Nat) (st:SortSt) (lo nrem:Nat) (Q:Option Nat->SortSt->Prop):Prop:=∀n xs,1<=n->n<=nrem->Sg st lo xs->Inc ρ xs lo (lo+n)->Q (some n) (setArr st xs)
theorem xa (hlt:cD prog w A E s kd ρ P) {st:SortSt}{lo nrem n:Nat}{xs:Array Keyed}{Q:Option Nat->SortSt->Prop}(hk:kindOf st=kd) (hP:∀x∈(arrOf st).toList,P x) (hs:lo+nrem=(arrOf st).size) (g:Sg st lo xs) (h1:1<=n) (hn:n<=nrem) (hd:Dec ρ xs lo (lo+n)) (h:uQ ρ st lo nrem Q) :
  wpS (model prog w) A E s (t3 lo nrem n) Q (setArr st xs):=by
 unfold t3
 rw [reverseSlice'_eq]
 have hsz:=g.size
 refine wpS_bind (wpS_modify ?_)
 have g':=g.mir (i:=lo) (j:=lo+n) (ar _) (by omega)
 have hi:=qNZ (ρ:=ρ) (xs:=xs) (lo:=lo) (n:=n) (by omega) hd
 show wpS _ _ _ _ _ _ (setArr st (mirror xs lo (lo+n) ((lo+n - lo) / 2)))
 generalize mirror xs lo (lo+n) ((lo+n - lo) / 2)=ys at g' hi
 have hsy:=g'.size
 dsimp only
 refine wpS_bind (wpS_mono (wpS_forRange (I:=λ(x:Nat) (c:Option (Option Nat)×Nat) (st':SortSt)=>c.1=none/\c.2=x/\st'=setArr st ys/\Inc ρ ys lo (lo+x))
  (Q:=λ(c:Option (Option Nat)×Nat) (st':SortSt)=>c.1=none/\n<=c.2/\c.2<=nrem/\st'=setArr st ys/\Inc ρ ys lo (lo+c.2)) ?_ ?_ ⟨rfl,rfl,rfl,hi⟩) ?_)
 ·rintro x ⟨o,m⟩ st' hx1 hx2 ⟨e1,e2,e3,e4⟩
  dsimp only at e1 e2
  subst e1 e2 e3
  dsimp only
  refine wpS_bind (ll hlt hk hP g' (by omega) (by omega) ?_)
  dsimp only
  by_cases hl:rk ρ ys (lo+m)<rk ρ ys (lo+m - 1)
  ·rw [Qk hl,Ql rfl]
   exact wpS_pure ⟨rfl,hx1,(by dsimp only;omega),rfl,e4⟩
  ·rw [Qj hl,Qm (by simp)]
   exact wpS_pure ⟨rfl,rfl,rfl,e4.next (by omega) (by omega)⟩
 ·rintro⟨o,m⟩ st' ⟨e1,e2,e3,e4⟩
  dsimp only at e1 e2
  subst e1 e2 e3
  rw [Nat.max_eq_right hn] at e4 ⊢
  exact⟨rfl,hn,ar _,rfl,e4⟩
 ·rintro⟨o,m⟩ st' ⟨e1,e2,e3,e4,e5⟩
  dsimp only at e1 e2 e3 e5
  subst e1 e4
  exact wpS_pure (h m ys (by omega) e3 g' e5)
theorem w9 (hlt:cD prog w A E s kd ρ P) {st:SortSt}{lo nrem n0:Nat}{xs:Array Keyed}{Q:Option Nat->SortSt->Prop}(hk:kindOf st=kd) (hP:∀x∈(arrOf st).toList,P x) (hs:lo+nrem=(arrOf st).size) (g:Sg st lo xs) (h1:1<=n0) (hn:n0+1<=nrem) (hd:Dec ρ xs lo (lo+(n0+1))) (h:uQ ρ st lo nrem Q) :
  wpS (model prog w) A E s (t2 lo nrem n0) Q (setArr st xs):=by
 unfold t2
 refine wpS_bind (wpS_lift (wpAny_rule ⟨rfl,?_⟩))
 dsimp only
 refine wpS_bind (wpS_mono (wpS_forRange (I:=λ(x:Nat) (c:Option (Option Nat)×Nat×Nat) (st':SortSt)=>c.1=none/\c.2.1=x/\c.2.2+1<=c.2.1/\∃ys,st'=setArr st ys/\Sg st lo ys/\Dec ρ ys lo (lo+x)/\∀k,lo+x - (c.2.2+1)<=k->k<lo+x->rk ρ ys k=rk ρ ys (lo+x - 1))
  (Q:=λ(c:Option (Option Nat)×Nat×Nat) (st':SortSt)=>c.1=none/\n0+1<=c.2.1/\c.2.1<=nrem/\c.2.2+1<=c.2.1/\∃ys,st'=setArr st ys/\Sg st lo ys/\Dec ρ ys lo (lo+c.2.1)/\∀k,lo+c.2.1 - (c.2.2+1)<=k->k<lo+c.2.1->rk ρ ys k=rk ρ ys (lo+c.2.1 - 1)) ?_ ?_ ⟨rfl,rfl,by dsimp only;omega,xs,rfl,g,hd,λk k1 k2=>by dsimp only at k1;congr 1;omega⟩) ?_)
 ·rintro x ⟨o,m,q⟩ st' hx1 hx2 ⟨e1,e2,e3,ys,e4,gy,dy,qy⟩
  dsimp only at e1 e2 e3 qy
  subst e1 e2 e4
  have hsy:=gy.size
  dsimp only
  refine wpS_bind (ll hlt hk hP gy (by omega) (by omega) ?_)
  dsimp only
  by_cases hl:rk ρ ys (lo+m)<rk ρ ys (lo+m - 1)
  ·rw [Qk hl,Ql rfl]
   by_cases hq:q > 0
   ·rw [Ql hq,reverseSlice'_eq]
    refine wpS_bind (wpS_modify (wpS_pure ⟨rfl,rfl,by dsimp only;omega,_,rfl,gy.mir (i:=lo+m - (q+1)) (j:=lo+m) (by omega) (by omega),?_,?_⟩))
    ·have same:∀k,rk ρ (mirror ys (lo+m - (q+1)) (lo+m) ((lo+m - (lo+m - (q+1))) / 2)) k=rk ρ ys k:=λk=>by
      rw [mZ (by omega)]
      split
      ·rw [qy _ (by omega) (by omega),qy k (by omega) (by omega)]
      ·rfl
     intro i j i1 i2 i3
     show rk ρ (mirror ys _ _ _) j<=rk ρ (mirror ys _ _ _) i
     rw [same,same]
     exact dy.next (by omega) (by omega) i j i1 i2 i3
    ·intro k k1 k2
     dsimp only at k1
     congr 1
     omega
   ·rw [Qm hq]
    exact wpS_pure ⟨rfl,rfl,by dsimp only;omega,ys,rfl,gy,dy.next (by omega) (by omega),λk k1 k2=>by dsimp only at k1;congr 1;omega⟩
  ·rw [Qj hl,Qm (by simp)]
   refine wpS_bind (ll hlt hk hP gy (by omega) (by omega) ?_)
   dsimp only
   by_cases hg:rk ρ ys (lo+m - 1)<rk ρ ys (lo+m)
   ·rw [Qk hg,Ql rfl]
    exact wpS_pure ⟨rfl,hx1,(by dsimp only;omega),e3,ys,rfl,gy,dy,qy⟩
   ·rw [Qj hg,Qm (by simp)]
    refine wpS_pure ⟨rfl,rfl,by dsimp only;omega,ys,rfl,gy,dy.next (by omega) (by omega),λk k1 k2=>?_⟩
    dsimp only at k1
    rw [show lo+(m+1) - 1=lo+m by omega]
    by_cases ek:k=lo+m
    ·rw [ek]
    ·rw [qy k (by omega) (by omega)]
     omega
 ·rintro⟨o,m,q⟩ st' ⟨e1,e2,e3,e4⟩
  dsimp only at e1 e2 e3
  subst e1 e2
  rw [Nat.max_eq_right hn] at e4 ⊢
  exact⟨rfl,hn,ar _,(by rw [Nat.max_eq_right hn] at e3;exact e3),e4⟩
 ·rintro⟨o,m,q⟩ st' ⟨e1,e2,e3,e4,ys,e5,gy,dy,qy⟩
  dsimp only at e1 e2 e3 e4 dy qy
  subst e1 e5
  dsimp only
  have hsy:=gy.size
  by_cases hq:q > 0
  ·rw [Ql hq,reverseSlice'_eq]
   refine wpS_bind (wpS_modify ?_)
   have same:∀k,rk ρ (mirror ys (lo+m - (q+1)) (lo+m) ((lo+m - (lo+m - (q+1))) / 2)) k=rk ρ ys k:=λk=>by
    rw [mZ (by omega)]
    split
    ·rw [qy _ (by omega) (by omega),qy k (by omega) (by omega)]
    ·rfl
   exact xa (st:=st) hlt hk hP hs (gy.mir (i:=lo+m - (q+1)) (j:=lo+m) (by omega) (by omega)) (by omega) e3 (λi j i1 i2 i3=>by rw [same,same];exact dy i j i1 i2 i3) h
  ·rw [Qm hq]
   exact xa hlt hk hP hs gy (by omega) e3 dy h
theorem qG4 (hlt:cD prog w A E s kd ρ P) {st:SortSt}{lo nrem:Nat}{Q:Option Nat->SortSt->Prop}(hk:kindOf st=kd) (hP:∀x∈(arrOf st).toList,P x) (hs:lo+nrem=(arrOf st).size) (h1:1<=nrem) (h:uQ ρ st lo nrem Q) :
  wpS (model prog w) A E s (countRun' lo nrem) Q st:=by
 rw [qTM]
 unfold t1
 dsimp only
 have g:=Sg.refl st lo
 refine wpS_bind (wpS_mono (wpS_forRange (I:=λ(x:Nat) (c:Option (Option Nat)×Nat) (st':SortSt)=>c.1=none/\c.2=x/\st'=setArr st (arrOf st)/\Inc ρ (arrOf st) lo (lo+x))
  (Q:=λ(c:Option (Option Nat)×Nat) (st':SortSt)=>c.1=none/\1<=c.2/\c.2<=nrem/\st'=setArr st (arrOf st)/\Inc ρ (arrOf st) lo (lo+c.2)/\(c.2<nrem->rk ρ (arrOf st) (lo+c.2)<rk ρ (arrOf st) (lo+c.2 - 1))) ?_ ?_ ⟨rfl,rfl,rfl,λi j i1 i2 i3=>by rw [show i=j by omega];exact ar _⟩) ?_)
 ·rintro x ⟨o,m⟩ st' hx1 hx2 ⟨e1,e2,e3,e4⟩
  dsimp only at e1 e2
  subst e1 e2 e3
  dsimp only
  refine wpS_bind (ll hlt hk hP g (by omega) (by omega) ?_)
  dsimp only
  by_cases hl:rk ρ (arrOf st) (lo+m)<rk ρ (arrOf st) (lo+m - 1)
  ·rw [Qk hl,Ql rfl]
   exact wpS_pure ⟨rfl,hx1,(by dsimp only;omega),rfl,e4,λ_=>hl⟩
  ·rw [Qj hl,Qm (by simp)]
   exact wpS_pure ⟨rfl,rfl,rfl,e4.next (by omega) (by omega)⟩
 ·rintro⟨o,m⟩ st' ⟨e1,e2,e3,e4⟩
  dsimp only at e1 e2
  subst e1 e2 e3
  rw [Nat.max_eq_right h1] at e4 ⊢
  exact⟨rfl,h1,ar _,rfl,e4,λz=>Qn z (fA _)⟩
 ·rintro⟨o,m⟩ st' ⟨e1,e2,e3,e4,e5,e6⟩
  dsimp only at e1 e2 e3 e5 e6
  subst e1 e4
  dsimp only
  by_cases hm:m=nrem
  ·rw [Ql (by simpa using hm)]
   exact wpS_pure (h m _ e2 e3 g e5)
  rw [Qm (by simpa using hm)]
  have hlt':=e6 (by omega)
  by_cases h2:m > 1
  ·rw [Ql h2]
   refine wpS_bind (ll hlt hk hP g (by omega) (by omega) ?_)
   dsimp only
   by_cases hr:rk ρ (arrOf st) lo<rk ρ (arrOf st) (lo+m - 1)
   ·rw [Qk hr,Ql rfl]
    exact wpS_pure (h m _ e2 e3 g e5)
   rw [Qj hr,Qm (by simp),reverseSlice'_eq]
   refine wpS_bind (wpS_modify ?_)
   have eq:∀k,lo<=k->k<lo+m->rk ρ (arrOf st) k=rk ρ (arrOf st) lo:=λk k1 k2=>by
    have a1:=e5 lo k (ar _) k1 k2
    have a2:=e5 k (lo+m - 1) k1 (by omega) (by omega)
    omega
   have same:∀k,rk ρ (mirror (arrOf st) lo (lo+m) ((lo+m - lo) / 2)) k=rk ρ (arrOf st) k:=λk=>by
    rw [mZ (by omega)]
    split
    ·rw [eq _ (by omega) (by omega),eq k (by omega) (by omega)]
    ·rfl
   refine w9 hlt hk hP hs (g.mir (i:=lo) (j:=lo+m) (ar _) (by omega)) e2 (by omega) (λi j i1 i2 i3=>?_) h
   rw [same,same]
   by_cases ej:j=lo+m
   ·by_cases ei:i=lo+m
    ·rw [ei,ej];exact ar _
    ·rw [eq i i1 (by omega),ej]
     have:=eq (lo+m - 1) (by omega) (by omega)
     omega
   ·rw [eq i i1 (by omega),eq j (by omega) (by omega)]
    exact ar _
  ·rw [Qm h2]
   have m1:m=1:=by omega
   subst m1
   refine w9 hlt hk hP hs g (ar _) (by omega) (λi j i1 i2 i3=>?_) h
   rw [Nat.add_sub_cancel] at hlt'
   by_cases ei:i=j
   ·rw [ei];exact ar _
   ·rw [show i=lo by omega,show j=lo+1 by omega]
    omega
end
end Dw.So
namespace Dw.So
open PySem PyProof.Rows
section
variable {prog:Program}{w:World}{A:Around}{E:Value->Shared->Prop}{s:Shared}{kd:SortKind}{ρ:Keyed->Nat}{P:Keyed->Prop}
theorem qMj (hlt:cD prog w A E s kd ρ P) {st:SortSt}{lo n ok:Nat}{xs:Array Keyed}{Q:Bool->SortSt->Prop}(hk:kindOf st=kd) (hP:∀x∈(arrOf st).toList,P x) (hs:lo+n<=(arrOf st).size) (g:Sg st lo xs) (h1:1<=ok) (hok:ok<=n) (hi:Inc ρ xs lo (lo+ok))
  (h:∀ys,Sg st lo ys->Inc ρ ys lo (lo+n)->Q true (setArr st ys)):wpS (model prog w) A E s (binarySort' lo n ok) Q (setArr st xs):=by
 rw [binarySort'_eq]
 rw [Nat.max_eq_left h1]
 refine wpS_bind (wpS_mono (wpS_forRange (I:=λ(k:Nat) (c:Option Bool×PUnit) (st':SortSt)=>c.1=none/\∃ys,st'=setArr st ys/\Sg st lo ys/\Inc ρ ys lo (lo+k))
  (Q:=λ(c:Option Bool×PUnit) (st':SortSt)=>c.1=none/\∃ys,st'=setArr st ys/\Sg st lo ys/\Inc ρ ys lo (lo+n)) ?_ ?_ ⟨rfl,xs,rfl,g,hi⟩) ?_)
 ·rintro k ⟨o,u⟩ st' hk1 hk2 ⟨e1,ys,e2,gy,iy⟩
  dsimp only at e1
  subst e1 e2
  have hsy:=gy.size
  refine wpS_bind (wpS_mono (wpS_forRange (I:=λ(x:Nat) (c:Option Bool×Nat×Nat) (st'':SortSt)=>st''=setArr st ys/\∃l r,c=(none,l,r)/\l<=r/\r<=k/\r - l<=k - x /\
    (∀i,i<l->rk ρ ys (lo+i)<=rk ρ ys (lo+k))/\(∀i,r<=i->i<k->rk ρ ys (lo+k)<rk ρ ys (lo+i)))
   (Q:=λ(c:Option Bool×Nat×Nat) (st'':SortSt)=>st''=setArr st ys/\∃l r,c=(none,l,r)/\l<=k /\
    (∀i,i<l->rk ρ ys (lo+i)<=rk ρ ys (lo+k))/\(∀i,l<=i->i<k->rk ρ ys (lo+k)<rk ρ ys (lo+i))) ?_ ?_ ⟨rfl,0,k,rfl,by omega,by omega,by omega,λi hi=>by omega,λi h1 h2=>by omega⟩) ?_)
  ·rintro x c st'' _ hxk ⟨rfl,l,r,rfl,hlr,hrk,hm,hlo,hhi⟩
   dsimp only
   by_cases hge:l ≥ r
   ·rw [Ql hge]
    have:l=r:=by omega
    subst this
    exact wpS_pure ⟨rfl,l,l,rfl,hrk,hlo,hhi⟩
   ·rw [Qm hge]
    refine wpS_bind (ll hlt hk hP gy (by omega) (by omega) ?_)
    dsimp only
    by_cases hl:rk ρ ys (lo+k)<rk ρ ys (lo+(l+r) / 2)
    ·rw [Qk hl,Ql rfl]
     refine wpS_pure ⟨rfl,l,(l+r) / 2,rfl,by omega,by omega,by omega,hlo,λi i1 i2=>?_⟩
     exact bG hl (iy _ _ (by omega) (by omega) (by omega))
    ·rw [Qj hl,Qm (by simp)]
     refine wpS_pure ⟨rfl,(l+r) / 2+1,r,rfl,by omega,by omega,by omega,λi i1=>?_,hhi⟩
     exact aM (iy (lo+i) (lo+(l+r) / 2) (by omega) (by omega) (by omega)) (by omega)
  ·rintro c st'' ⟨rfl,l,r,rfl,hlr,hrk,hm,hlo,hhi⟩
   have:l=r:=by omega
   subst this
   exact⟨rfl,l,l,rfl,hrk,hlo,hhi⟩
  ·rintro c st'' ⟨rfl,l,r,rfl,hlk,hlo,hhi⟩
   show wpS _ _ _ _ (do moveDown' (lo+k) (lo+l);pure (ForInStep.yield (none,PUnit.unit))) _ _
   rw [moveDown'_eq]
   refine wpS_bind (wpS_modify (wpS_pure ⟨rfl,_,rfl,gy.bub (src:=lo+k) (d:=lo+k - (lo+l)) (by omega) (by omega),?_⟩))
   intro i j i1 i2 i3
   show rk ρ (bubble ys (lo+k) (lo+k - (lo+l))) i<=rk ρ (bubble ys (lo+k) (lo+k - (lo+l))) j
   rw [Ad (by omega) (by omega),Ad (by omega) (by omega),show lo+k - (lo+k - (lo+l))=lo+l by omega]
   have H1:∀i,lo<=i->i<lo+l->rk ρ ys i<=rk ρ ys (lo+k):=λi a1 a2=>by have:=hlo (i - lo) (by omega);rwa [show lo+(i - lo)=i by omega] at this
   have H2:∀i,lo+l<=i->i<lo+k->rk ρ ys (lo+k)<=rk ρ ys i:=λi a1 a2=>by have:=hhi (i - lo) (by omega) (by omega);rw [show lo+(i - lo)=i by omega] at this;omega
   repeat' split
   all_goals first
    | (exfalso;omega)
    | exact ar _
    | exact H1 _ (by omega) (by omega)
    | exact H2 _ (by omega) (by omega)
    | exact iy _ _ (by omega) (by omega) (by omega)
 ·rintro⟨o,u⟩ st' ⟨e1,ys,e2,gy,iy⟩
  rw [Nat.max_eq_right hok] at iy
  exact⟨e1,ys,e2,gy,iy⟩
 ·rintro⟨o,u⟩ st' ⟨e1,ys,e2,gy,iy⟩
  dsimp only at e1
  subst e1 e2
  exact wpS_pure (h ys gy iy)
def Rn (ρ:Keyed->Nat):List (Nat×Nat)->List (List Keyed)->Nat->Prop
 | [],[],_=>True
 | q::ps,u::us,s0=>q.1=s0/\q.2=u.length/\0<u.length/\Up ρ u/\Rn ρ ps us (s0+u.length)
 | _,_,_=>False
abbrev pr (q:Nat×Nat×Nat):Nat×Nat:=(q.1,q.2.1)
theorem Rn.len:∀{ps:List (Nat×Nat)}{us:List (List Keyed)}{s0:Nat},Rn ρ ps us s0->ps.length=us.length
 | [],[],_,_=>rfl
 | q::ps,u::us,s0,⟨_,_,_,_,h⟩=>by rw [dG,dG,h.len]
 | [],_::_,_,h=>h.elim
 | _::_,[],_,h=>h.elim
theorem Rn.le:∀{ps:List (Nat×Nat)}{us:List (List Keyed)}{s0:Nat},Rn ρ ps us s0->us.length<=us.flatten.length
 | [],[],_,_=>ar _
 | q::ps,u::us,s0,⟨_,_,h1,_,h⟩=>by have:=h.le;rw [jo,bf,dG];omega
 | [],_::_,_,h=>h.elim
 | _::_,[],_,h=>h.elim
theorem Rn.app:∀{ps ps':List (Nat×Nat)}{us us':List (List Keyed)}{s0:Nat},Rn ρ ps us s0->Rn ρ ps' us' (s0+us.flatten.length)->Rn ρ (ps++ps') (us++us') s0
 | [],_,[],_,_,_,h=>by simpa using h
 | q::ps,_,u::us,_,s0,⟨h1,h2,h3,h4,h⟩,h'=>⟨h1,h2,h3,h4,h.app (by rw [jo,bf] at h';rw [Nat.add_assoc];exact h')⟩
 | [],_,_::_,_,_,h,_=>h.elim
 | _::_,_,[],_,_,h,_=>h.elim
theorem Rn.split:∀{ps ps':List (Nat×Nat)}{us:List (List Keyed)}{s0:Nat},Rn ρ (ps++ps') us s0->∃us1 us2,us=us1++us2/\Rn ρ ps us1 s0/\Rn ρ ps' us2 (s0+us1.flatten.length)
 | [],_,us,s0,h=>⟨[],us,rfl,trivial,by simpa using h⟩
 | q::ps,_,u::us,s0,⟨h1,h2,h3,h4,h⟩=>by
  obtain⟨us1,us2,e,a,b⟩:=h.split
  exact⟨u::us1,us2,by rw [e];rfl,⟨h1,h2,h3,h4,a⟩,by rw [jo,bf,<-Nat.add_assoc];exact b⟩
 | _::_,_,[],_,h=>h.elim
structure So (ρ:Keyed->Nat) (kd:SortKind) (a₀:Array Keyed) (st:SortSt) (us:List (List Keyed)) (rest:List Keyed):Prop where
 kind:kindOf st=kd
 failed:failedOf st=none
 perm:(arrOf st).Perm a₀
 arr:(arrOf st).toList=us.flatten++rest
 runs:Rn ρ ((pendingOf st).toList.map pr) us 0
theorem qON {l:List (Nat×Nat×Nat)}{i:Nat}(h:i+1<l.length):∃l1 x y l2,l=l1++x::y::l2/\l1.length=i:=by
 refine⟨l.take i,l[i],l[i+1],l.drop (i+2),?_,by rw [eL];omega⟩
 rw [<-kD h,<-kD (by omega),gF]
theorem zG (hlt:cD prog w A E s kd ρ P) {a₀:Array Keyed}(hP:∀x∈a₀.toList,P x) {st:SortSt}{us:List (List Keyed)}{rest:List Keyed}{i:Nat}{Q:Bool->SortSt->Prop}(S:So ρ kd a₀ st us rest) (hi:i+1<(pendingOf st).size)
  (h:∀st' us',So ρ kd a₀ st' us' rest->us'.flatten.length=us.flatten.length->(pendingOf st').size+1=(pendingOf st).size->Q true st'):wpS (model prog w) A E s (mergeAt' i) Q st:=by
 obtain⟨l1,x,y,l2,el,e1⟩:=qON (l:=(pendingOf st).toList) (i:=i) (by rw [cw];exact hi)
 have R:=S.runs
 rw [el,List.map_append,cT,cT] at R
 obtain⟨us1,us2,eu,R1,R2⟩:=R.split
 match us2,R2 with
 | u::v::us2,⟨h1,h2,h3,h4,g1,g2,g3,g4,R3⟩ =>
  dsimp only [pr] at h1 h2 g1 g2
  rw [cZ] at h1 g1 R3
  have hp:(pendingOf st)[i]?=some (us1.flatten.length,u.length,x.2.2):=by
   rw [<-iU,el,<-e1,gE (ar _),nI,<-h1,<-h2]
   rfl
  have hp2:(pendingOf st)[i+1]?=some (us1.flatten.length+u.length,v.length,y.2.2):=by
   rw [<-iU,el,<-e1,gE (by omega),f6,<-g1,<-g2]
   rfl
  have hL:(arrOf st).toList=us1.flatten++(u++(v++(us2.flatten++rest))):=by rw [S.arr,eu];simp
  have pm:=S.perm
  refine qE8 hlt (na:=0) (nb:=0) S.kind S.failed hp hp2 hL (λx hx=>hP x ((Array.perm_iff_toList_perm.mp pm).mem_iff.mp hx)) h3 g3 h4 g4 λr xs g hr pr' ur=>?_
  have rl:r.length=u.length+v.length:=by rw [pr'.length_eq,bf]
  refine h _ (us1++r::us2) ⟨S.kind,rfl,?_,?_,?_⟩ ?_ ?_
  ·refine Array.Perm.trans ?_ S.perm
   rw [Array.perm_iff_toList_perm]
   show xs.toList.Perm _
   rw [hr,hL]
   refine List.Perm.append_left _ ?_
   rw [<-bw u v]
   exact List.Perm.append_right _ pr'
  ·show xs.toList=_
   rw [hr]
   simp
  ·show Rn ρ ((((pendingOf st).setIfInBounds i (us1.flatten.length,u.length+v.length,x.2.2)).eraseIdxIfInBounds (i+1)).toList.map pr) _ 0
   have:(((pendingOf st).setIfInBounds i (us1.flatten.length,u.length+v.length,x.2.2)).eraseIdxIfInBounds (i+1)).toList=l1++(us1.flatten.length,u.length+v.length,x.2.2)::l2:=by
    rw [Array.eraseIdxIfInBounds,dif_pos (by rw [Array.size_setIfInBounds];exact hi),Array.toList_eraseIdx,Array.toList_setIfInBounds,el,<-e1,List.set_append_right _ _ (ar _),nI,List.set_cons_zero,List.eraseIdx_append_of_length_le (by omega),f6]
    rfl
   rw [this,List.map_append,cT]
   exact R1.app ⟨by rw [cZ],by rw [rl],by omega,ur,by rw [rl,cZ];rw [<-Nat.add_assoc];exact R3⟩
  ·rw [eu]
   simp [rl]
   omega
  ·show (((pendingOf st).setIfInBounds i (us1.flatten.length,u.length+v.length,x.2.2)).eraseIdxIfInBounds (i+1)).size+1=_
   rw [Array.eraseIdxIfInBounds,dif_pos (by rw [Array.size_setIfInBounds];exact hi),Array.size_eraseIdx,Array.size_setIfInBounds]
   omega
 | [u],⟨_,_,_,_,z⟩=>exact z.elim
 | [],z=>exact z.elim
end
end Dw.So
namespace Dw.So
open PySem PyProof.Rows
noncomputable def oZ (pw:Nat):StateT SortSt Sem (ForInStep (Option Unit×Unit)):=do
 let st <-get
 match (if (pendingOf st).size > 1 then (pendingOf st)[(pendingOf st).size - 2]? else none) with
 | some (_,_,older) =>
  if older<=pw then pure (.done (none,()))
  else do
   let b <-mergeAt' ((pendingOf st).size - 2)
   if !b then pure (.done (some (),())) else pure (.yield (none,()))
 | _=>pure (.done (none,()))
def mH (size lo n:Nat):StateT SortSt Sem (ForInStep (Option Unit×Nat)):=do
 let st <-get
 match (pendingOf st).back? with
 | some (s1,n1,_)=>do
  let d <-forIn [0:size] ((none,()):Option Unit×Unit) λ_ _=>oZ (power' size (2 * s1+n1) (2 * s1+n1+n1+n) size)
  match d.1 with
  | some r=>pure (.done (some r,lo))
  | none=>do
   modify λs=>setPending s ((pendingOf s).modify ((pendingOf s).size - 1) λx=>(x.1,x.2.1,power' size (2 * s1+n1) (2 * s1+n1+n1+n) size))
   modify λs=>setPending s ((pendingOf s).push (lo,n,0))
   pure (.yield (none,lo+n))
 | _=>do
  modify λs=>setPending s ((pendingOf s).push (lo,n,0))
  pure (.yield (none,lo+n))
section
variable {prog:Program}{w:World}{A:Around}{E:Value->Shared->Prop}{s:Shared}{kd:SortKind}{ρ:Keyed->Nat}{P:Keyed->Prop}
theorem w8 {α:Type}{m m':StateT SortSt Sem α}{Q:α->SortSt->Prop}{st:SortSt}(e:m=m') (h:wpS (model prog w) A E s m' Q st):wpS (model prog w) A E s m Q st:=by rw [e];exact h
theorem qNM {l:List (Nat×Nat×Nat)}{i:Nat}{f:Nat×Nat×Nat->Nat×Nat×Nat}(hf:∀x,pr (f x)=pr x):(l.modify i f).map pr=l.map pr:=by
 apply List.ext_getElem?
 intro j
 rw [cu,cu,List.getElem?_modify]
 split
 ·cases l[j]? with
  | none=>rfl
  | some x=>show some (pr (f x))=some (pr x);rw [hf]
 ·cases l[j]?<;>rfl
theorem qJy (hlt:cD prog w A E s kd ρ P) {a₀:Array Keyed}(hP:∀x∈a₀.toList,P x) {st:SortSt}{us:List (List Keyed)}{u rest:List Keyed}{size:Nat}{R:ForInStep (Option Unit×Nat)->SortSt->Prop}(S:So ρ kd a₀ st us (u++rest)) (hu:0<u.length) (uu:Up ρ u)
  (h:∀st' us',So ρ kd a₀ st' us' rest->us'.flatten.length=us.flatten.length+u.length->R (.yield (none,us.flatten.length+u.length)) st'):wpS (model prog w) A E s (mH size us.flatten.length u.length) R st:=by
 have fin:∀st' us',So ρ kd a₀ st' us' (u++rest)->us'.flatten.length=us.flatten.length->R (.yield (none,us.flatten.length+u.length)) (setPending st' ((pendingOf st').push (us.flatten.length,u.length,0))):=λst' us' S' hl=>by
  refine h _ (us'++[u]) ⟨S'.kind,S'.failed,S'.perm,?_,?_⟩ ?_
  ·show (arrOf st').toList=_
   rw [S'.arr]
   simp
  ·show Rn ρ (((pendingOf st').push (us.flatten.length,u.length,0)).toList.map pr) _ 0
   rw [Array.toList_push,List.map_append]
   exact S'.runs.app ⟨by show us.flatten.length=0+us'.flatten.length;omega,rfl,hu,uu,trivial⟩
  ·rw [List.flatten_append,bf,hl]
   simp
 unfold mH
 refine wpS_bind (wpS_get ?_)
 cases e:(pendingOf st).back? with
 | none=>exact wpS_bind (wpS_modify (wpS_pure (fin st us S rfl)))
 | some q =>
  obtain⟨s1,n1,p1⟩:=q
  dsimp only
  refine wpS_bind (wpS_mono (wpS_forRange (I:=λ(x:Nat) (c:Option Unit×Unit) (st':SortSt)=>c.1=none/\∃us',So ρ kd a₀ st' us' (u++rest)/\us'.flatten.length=us.flatten.length) (Q:=λ(c:Option Unit×Unit) (st':SortSt)=>c.1=none/\∃us',So ρ kd a₀ st' us' (u++rest)/\us'.flatten.length=us.flatten.length) ?_ (λc st' h=>h) ⟨rfl,us,S,rfl⟩) ?_)
  ·rintro x ⟨o,v⟩ st' _ _ ⟨e1,us',S',hl⟩
   unfold oZ
   refine wpS_bind (wpS_get ?_)
   by_cases hz:(pendingOf st').size > 1
   ·rw [Ql hz,lW (by omega)]
    dsimp only
    split
    ·exact wpS_pure ⟨rfl,us',S',hl⟩
    ·refine wpS_bind (zG hlt hP S' (by omega) λst2 us2 S2 l2 _=>?_)
     exact wpS_pure ⟨rfl,us2,S2,l2.trans hl⟩
   ·rw [Qm hz]
    exact wpS_pure ⟨rfl,us',S',hl⟩
  ·rintro⟨o,v⟩ st' ⟨e1,us',S',hl⟩
   dsimp only at e1
   subst e1
   dsimp only
   refine wpS_bind (wpS_modify (wpS_bind (wpS_modify (wpS_pure ?_))))
   refine fin (setPending st' _) us' ⟨S'.kind,S'.failed,S'.perm,S'.arr,?_⟩ hl
   show Rn ρ (((pendingOf st').modify _ _).toList.map pr) us' 0
   have mm:=qNM (l:=(pendingOf st').toList) (i:=(pendingOf st').size - 1) (f:=λx=>(x.1,x.2.1,power' size (2 * s1+n1) (2 * s1+n1+n1+u.length) size)) λx=>rfl
   rw [Array.toList_modify,mm]
   exact S'.runs
theorem qHa {xs:Array Keyed}{lo n:Nat}(h:Inc ρ xs lo (lo+n)) (hs:lo+n<=xs.size):Up ρ ((xs.toList.drop lo).take n):=by
 refine List.pairwise_iff_getElem.mpr λi j hi hj hij=>?_
 rw [eL,hJ,cw] at hi hj
 have:=h (lo+i) (lo+j) (by omega) (by omega) (by omega)
 unfold rk at this
 rw [lW (by omega),lW (by omega)] at this
 simpa using this
theorem Sg.so {a₀:Array Keyed}{st:SortSt}{us:List (List Keyed)}{rest:List Keyed}{xs:Array Keyed}(S:So ρ kd a₀ st us rest) (g:Sg st us.flatten.length xs) (n:Nat):So ρ kd a₀ (setArr st xs) us ((xs.toList.drop us.flatten.length).take n++xs.toList.drop (us.flatten.length+n)):=by
 refine⟨S.kind,S.failed,g.perm.trans S.perm,?_,S.runs⟩
 show xs.toList=_
 have e:xs.toList.take us.flatten.length=us.flatten:=by
  have:xs.toList.take us.flatten.length=(arrOf st).toList.take us.flatten.length:=by
   apply List.ext_getElem?
   intro j
   rw [List.getElem?_take,List.getElem?_take]
   split
   ·rw [iU,iU]
    exact g.low j (by assumption)
   ·rfl
  rw [this,S.arr,List.take_left']
  rfl
 rw [<-drop_take]
 have:=gF us.flatten.length xs.toList
 rw [e] at this
 exact this.symm
theorem qJx (hlt:cD prog w A E s kd ρ P) {st:SortSt}{Q:Unit->SortSt->Prop}(hk:kindOf st=kd) (hf:failedOf st=none) (hp:pendingOf st=#[]) (hP:∀x∈(arrOf st).toList,P x)
  (h:∀st',(arrOf st').Perm (arrOf st)->failedOf st'=none->Up ρ (arrOf st').toList->Q () st'):wpS (model prog w) A E s sortRuns' Q st:=by
 rw [sortRuns'_eq]
 refine wpS_bind (wpS_get ?_)
 dsimp only
 have S0:So ρ kd (arrOf st) st [] (arrOf st).toList:=⟨hk,hf,Array.Perm.refl _,rfl,by rw [hp];trivial⟩
 refine wpS_bind (wpS_mono (wpS_forRange (I:=λ(x:Nat) (c:Option Unit×Nat) (st':SortSt)=>c.1=none/\∃us rest,So ρ kd (arrOf st) st' us rest/\c.2=us.flatten.length/\x<=us.flatten.length)
  (Q:=λ(c:Option Unit×Nat) (st':SortSt)=>c.1=none/\∃us,So ρ kd (arrOf st) st' us []) ?_ ?_ ⟨rfl,[],_,S0,rfl,ar _⟩) ?_)
 ·rintro x ⟨o,lo⟩ st' _ hx ⟨e1,us,rest,S,e2,e3⟩
  dsimp only at e1 e2
  subst e1 e2
  dsimp only
  have hsz:(arrOf st').size=(arrOf st).size:=S.perm.size_eq
  have htot:us.flatten.length+rest.length=(arrOf st).size:=by rw [<-hsz,<-cw,S.arr,bf]
  by_cases hge:us.flatten.length ≥ (arrOf st).size
  ·rw [Ql hge]
   have:rest=[]:=ybk.mp (by omega)
   subst this
   exact wpS_pure ⟨rfl,us,S⟩
  rw [Qm hge]
  have pm:=S.perm
  have hP':∀x∈(arrOf st').toList,P x:=λx hx=>hP x ((Array.perm_iff_toList_perm.mp pm).mem_iff.mp hx)
  have key:∀(n:Nat) (ys:Array Keyed) (R:ForInStep (Option Unit×Nat)->SortSt->Prop),1<=n->n<=(arrOf st).size - us.flatten.length->Sg st' us.flatten.length ys->Inc ρ ys us.flatten.length (us.flatten.length+n) ->
    (∀st2 us2 rest2,So ρ kd (arrOf st) st2 us2 rest2->us.flatten.length+n=us2.flatten.length->R (.yield (none,us.flatten.length+n)) st2)->wpS (model prog w) A E s (mH (arrOf st).size us.flatten.length n) R (setArr st' ys):=by
   intro n ys R n1 n2 g i hR
   have gs:=g.size
   have S':=g.so S n
   have ul:((ys.toList.drop us.flatten.length).take n).length=n:=by rw [eL,hJ,cw];omega
   have:=qJy (size:=(arrOf st).size) hlt hP S' (by omega) (qHa i (by omega)) (R:=R) λst2 us2 S2 l2=>by rw [ul] at l2 ⊢;exact hR st2 us2 _ S2 l2.symm
   rw [ul] at this
   exact this
  refine wpS_bind (qG4 hlt S.kind hP' (by omega) (by omega) λn ys n1 n2 g i=>?_)
  dsimp only
  by_cases hm:n<minRun' (arrOf st).size (arrOf st).size 0
  ·rw [Ql hm]
   refine wpS_bind (wpS_lift (wpAny_rule ⟨rfl,?_⟩))
   refine wpS_bind (qMj hlt S.kind hP' (by omega) g n1 (by omega) i λzs gz iz=>?_)
   rw [Qm (by simp)]
   refine w8 ?_ (key _ zs _ (by omega) (by omega) gz iz λst2 us2 rest2 S2 l2=>⟨rfl,us2,rest2,S2,l2,by omega⟩)
   unfold mH
   refine bc λq=>?_
   cases (pendingOf q).back? with
   | none=>rfl
   | some z =>
    obtain⟨s1,n1,p1⟩:=z
    refine qm (λ_ c=>?_) λd=>?_
    ·unfold oZ
     refine bc λq=>?_
     cases (if (pendingOf q).size > 1 then (pendingOf q)[(pendingOf q).size - 2]? else none) with
     | none=>rfl
     | some z=>obtain⟨z1,z2,z3⟩:=z;rfl
    ·obtain⟨d1,d2⟩:=d
     cases d1<;>rfl
  ·rw [Qm hm]
   refine w8 ?_ (key n ys _ n1 n2 g i λst2 us2 rest2 S2 l2=>⟨rfl,us2,rest2,S2,l2,by omega⟩)
   unfold mH
   refine bc λq=>?_
   cases (pendingOf q).back? with
   | none=>rfl
   | some z =>
    obtain⟨s1,n1,p1⟩:=z
    refine qm (λ_ c=>?_) λd=>?_
    ·unfold oZ
     refine bc λq=>?_
     cases (if (pendingOf q).size > 1 then (pendingOf q)[(pendingOf q).size - 2]? else none) with
     | none=>rfl
     | some z=>obtain⟨z1,z2,z3⟩:=z;rfl
    ·obtain⟨d1,d2⟩:=d
     cases d1<;>rfl
 ·rintro⟨o,lo⟩ st' ⟨e1,us,rest,S,e2,e3⟩
  have hsz:(arrOf st').size=(arrOf st).size:=S.perm.size_eq
  have htot:us.flatten.length+rest.length=(arrOf st).size:=by rw [<-hsz,<-cw,S.arr,bf]
  have:rest=[]:=ybk.mp (by omega)
  subst this
  exact⟨e1,us,S⟩
 ·rintro⟨o,lo⟩ st' ⟨e1,us,S⟩
  dsimp only at e1
  subst e1
  dsimp only
  have sz:∀{st' us},So ρ kd (arrOf st) st' us []->(pendingOf st').size=us.length/\us.length<=(arrOf st).size:=λ{st' us} S=>by
   have h1:=S.runs.len
   have h2:=S.runs.le
   have hsz:(arrOf st').size=(arrOf st).size:=S.perm.size_eq
   rw [aC,cw] at h1
   refine⟨h1,?_⟩
   rw [<-hsz,<-cw,S.arr,cL]
   exact h2
  refine wpS_bind (wpS_mono (wpS_forRange (I:=λ(x:Nat) (c:Option Unit×Unit) (st':SortSt)=>c.1=none/\∃us,So ρ kd (arrOf st) st' us []/\us.length+x<=(arrOf st).size)
   (Q:=λ(c:Option Unit×Unit) (st':SortSt)=>c.1=none/\∃us,So ρ kd (arrOf st) st' us []/\us.length<=1) ?_ ?_ ⟨rfl,us,S,by have:=(sz S).2;omega⟩) ?_)
  ·rintro x ⟨o,v⟩ st' _ hx ⟨e1,us,S,hl⟩
   refine wpS_bind (wpS_get ?_)
   have h1:=(sz S).1
   by_cases hz:(pendingOf st').size<=1
   ·rw [Ql hz]
    exact wpS_pure ⟨rfl,us,S,by omega⟩
   ·rw [Qm hz]
    refine wpS_bind (zG hlt hP S ?_ λst2 us2 S2 l2 z2=>?_)
    ·repeat (first|omega|split)
    ·have:=(sz S2).1
     exact wpS_pure ⟨rfl,us2,S2,by omega⟩
  ·rintro⟨o,v⟩ st' ⟨e1,us,S,hl⟩
   exact⟨e1,us,S,by omega⟩
  ·rintro⟨o,v⟩ st' ⟨e1,us,S,hl⟩
   dsimp only at e1
   subst e1
   refine wpS_pure (h st' S.perm S.failed ?_)
   rw [S.arr,cL]
   have R:=S.runs
   match us,hl,R with
   | [],_,_=>exact List.Pairwise.nil
   | [u],_,R =>
    match (pendingOf st').toList.map pr,R with
    | [q],⟨_,_,_,uu,_⟩=>simpa using uu
    | _::_::_,⟨_,_,_,_,z⟩=>exact z.elim
    | [],z=>exact z.elim
end
end Dw.So
namespace Dw.So
open PySem PySem.W PySem.Calls PyProof.Rows
section
variable {prog:Program}{w:World}{A:Around}{E:Value->Shared->Prop}{s:Shared}
theorem qNN {κ:SortKind}{ρ:Value->Nat}{vs:List Value}(hc:∀x∈vs,∀y∈vs,∀(Q:Bool->Shared->Prop) (E:Value->Shared->Prop),Q (decide (ρ x<ρ y)) s->wpAny (model prog w) A (keyLt' κ x y) Q E s):cD prog w A E s κ (λx=>ρ x.1) (λx=>x.1=x.2/\x.1∈vs):=by
 intro x y st Q hx hy hk h
 rw [lt'_eq]
 refine wpS_bind (wpS_get ?_)
 rw [hk]
 refine wpS_bind (wpS_lift (wpAny_attempt (hc x.1 hx.2 y.1 hy.2 _ _ ⟨rfl,?_⟩)))
 exact wpS_pure h
theorem sort_any {a:Addr}{vs:List Value}{n:Nat}{κ:SortKind}{ρ:Value->Nat}{P:PySem.Fin->Shared->Prop}(ho:s.heap.get? a=some (seqObj "list" vs.toArray n)) (h2:2<=vs.length) (hz:vs.length<=sizeLine)
  (hk:∀s':Shared,(∀b o,b≠a->s.heap.get? b=some o->s'.heap.get? b=some o)->wpAny (model prog w) A (keyKind' vs.toArray) (fun κ' s0=>κ'=κ/\s0=s') (λ_ _=>False) s')
  (hc:∀s':Shared,(∀b o,b≠a->s.heap.get? b=some o->s'.heap.get? b=some o)->∀x∈vs,∀y∈vs,∀(Q:Bool->Shared->Prop) (E:Value->Shared->Prop),Q (decide (ρ x<ρ y)) s'->wpAny (model prog w) A (keyLt' κ x y) Q E s')
  (k:∀h' m (us:List Value),(∀b o,b≠a->s.heap.get? b=some o->h'.get? b=some o)->us.Perm vs->us.Pairwise (λx y=>ρ x<=ρ y)->h'.get? a=some (seqObj "list" us.toArray m)->P (.done (.ret .none)) { s with heap:=h' }) :
  wpAny (model prog w) A (Builtin.«list.sort» ⟨[.ref a],[]⟩) P E s:=by
 have s1:=Heap.SameBut.update s.heap a (Obj.mapSeq λ_=>(#[]:Array Value))
 obtain⟨e1,ho1⟩:∃e1,(s.heap.update a (Obj.mapSeq λ_=>(#[]:Array Value))).get? a=some (seqObj "list" #[] e1):=⟨_,get?_update_seq ho λ_=>#[]⟩
 generalize hH:((s.heap.update a (Obj.mapSeq λ_=>(#[]:Array Value))).push (seqObj "tuple" vs.toArray 0)).push (seqObj "list" #[] 0)=H3
 have kp:∀b o,b≠a->s.heap.get? b=some o->H3.get? b=some o:=λb o hb e=>by
  rw [<-hH];exact Qg _ (Qg _ (s1.extBut b o hb e))
 have ha3:H3.get? a=some (seqObj "list" #[] e1):=by rw [<-hH];exact Qg _ (Qg _ ho1)
 rw [list_sort_plain]
 refine Qc (listItems_at ho rfl (Qc (listUpdate_at ho rfl ?_ (by rw [aH];exact hz) (fx _))))
 refine Qc (seqEpoch_at ho1 rfl (Qc (wpAny_newTuple ?_ hz)))
 refine Qc (wpAny_newList (wpAny_holding ?_) (fx _))
 show wpAny (model prog w) A _ P E { s with heap:=((s.heap.update a (Obj.mapSeq λ_=>(#[]:Array Value))).push (seqObj "tuple" vs.toArray 0)).push (seqObj "list" #[] 0) }
 rw [hH];dsimp only
 have hn2:¬vs.toArray.size<2:=by rw [aH];omega
 rw [Qm hn2,Qm hn2]
 refine Qc (Qe (hk { s with heap:=H3 } kp) (fun κ' s0 e=>?_) λ_ _ x=>x.elim)
 obtain⟨rfl,rfl⟩:=e
 have run:=qJx (E:=E) (s:={ s with heap:=H3 }) (qNN (hc { s with heap:=H3 } kp)) (st:=SortSt.mk' κ' (vs.toArray.zip vs.toArray) #[] 7 none)
  (Q:=λ_ st'=>(arrOf st').Perm (vs.toArray.zip vs.toArray)/\failedOf st'=none/\Up (λx=>ρ x.1) (arrOf st').toList) rfl rfl rfl (λx hx=>by
   rw [show (arrOf (SortSt.mk' κ' (vs.toArray.zip vs.toArray) #[] 7 none)).toList=vs.zip vs from by show (vs.toArray.zip vs.toArray).toList=_;simp] at hx
   exact mem_zip_self hx) λst' h1 h2 h3=>⟨h1,h2,h3⟩
 refine Qc (Qe run ?_ λ_ _ e=>e)
 rintro⟨⟨⟩,st'⟩ s' ⟨rfl,hperm,hf,hup⟩
 dsimp only at hperm hf hup ⊢
 have hl:(arrOf st').toList.Perm (vs.zip vs):=by
  have:=Array.perm_iff_toList_perm.mp hperm
  simpa using this
 have hmem:∀p,p∈(arrOf st').toList->p.1=p.2/\p.1∈vs:=λp hp'=>mem_zip_self (hl.mem_iff.mp hp')
 have hout:(arrOf st').map (·.2)=((arrOf st').toList.map (·.2)).toArray:=by
  refine Array.ext' ?_
  rw [Array.toList_map]
 have p2:((arrOf st').toList.map (·.2)).Perm vs:=by
  have:=hl.map (·.2)
  rwa [List.map_snd_zip (ar _)] at this
 have u2:((arrOf st').toList.map (·.2)).Pairwise (λx y=>ρ x<=ρ y):=by
  rw [List.pairwise_map]
  refine List.Pairwise.imp_of_mem (λ{x y} hx hy hxy=>?_) hup
  rw [<-(hmem x hx).1,<-(hmem y hy).1]
  exact hxy
 rw [hout]
 generalize (arrOf st').toList.map (·.2)=us at p2 u2
 have hsz:us.toArray.size=vs.length:=by rw [aH,p2.length_eq]
 obtain⟨c2,hc2⟩:∃c2,(H3.update a (Obj.mapSeq λ_=>us.toArray)).get? a=some (seqObj "list" us.toArray c2):=⟨_,get?_update_seq ha3 λ_=>us.toArray⟩
 refine Qc (seqEpoch_at ha3 rfl (Qc (listUpdate_at ha3 rfl ?_ (fx _) (aM (Nat.le_of_eq hsz) (by omega)))))
 rw [hf];simp only [bne_self_eq_false,fB,if_false]
 exact Qd (k _ c2 us (λb o hb e=>(Heap.SameBut.update H3 a _).extBut b o hb (kp b o hb e)) p2 u2 hc2)
end
section
variable {τ:Type}{lt:τ->τ->Bool}
theorem sg {p q:τ->Bool}:∀{l:List τ},(∀z∈l,p z=true->q z=true)->l.countP p<=l.countP q
 | [],_=>ar _
 | x::l,h=>by
  have ih:=sg (p:=p) (q:=q) (l:=l) λz hz=>h z (bC _ hz)
  rw [List.countP_cons,List.countP_cons]
  have:=h x bh
  cases hp:p x<;>cases hq:q x<;>simp [hp,hq] at this ⊢<;>omega
theorem xH {p q:τ->Bool}{x:τ}:∀{l:List τ},(∀z∈l,p z=true->q z=true)->x∈l->p x=false->q x=true->l.countP p<l.countP q
 | y::l,h,hx,hp,hq=>by
  rw [List.countP_cons,List.countP_cons]
  rcases yag.mp hx with rfl|hx
  ·have:=sg (p:=p) (q:=q) (l:=l) λz hz=>h z (bC _ hz)
   simp [hp,hq]
   omega
  ·have ih:=xH (l:=l) (λz hz=>h z (bC _ hz)) hx hp hq
   have:=h y bh
   cases hp':p y<;>cases hq':q y<;>simp [hp',hq'] at this ⊢<;>omega
noncomputable def rank (lt:τ->τ->Bool) (l:List τ) (x:τ):Nat:=l.countP (lt · x)
theorem rank_lt (irr:∀x,lt x x=false) (tr:∀x y z,lt x y=true->lt y z=true->lt x z=true) (nt:∀x y z,lt x z=true->lt x y=true∨lt y z=true) {l:List τ}{x y:τ}(hx:x∈l):decide (rank lt l x<rank lt l y)=lt x y:=by
 cases h:lt x y with
 | true=>exact Qk (xH (x:=x) (λz _ hz=>tr z x y hz h) hx (irr x) h)
 | false =>
  refine Qj (Nat.not_lt.mpr (sg λz _ hz=>?_))
  rcases nt z x y hz with h'|h'
  ·exact h'
  ·rw [h] at h';cases h'
end
end Dw.So
namespace Dw
open PySem
structure Kn where
 c:Nat
 ns:List Str
 deriving DecidableEq,Inhabited
inductive D where
 | non|bl (b:Bool)|int (i:Int)|str (x:Str)|tup (ds:List D)|lst (ds:List D)
  | dct (m:Bool) (ks:List Int)
  | obj (ns:Kn) (ds:List D)
 deriving Inhabited
inductive BOp where|add|sub|mul|fdiv|mod|pow|shl|shr|band|bor|bxor
 deriving DecidableEq,Inhabited
inductive COp where|eq|ne|lt|le|gt|ge|isin|notin
 deriving DecidableEq,Inhabited
inductive BI where|len|abs|min|max|sum|all|tuple|list|int|any|str|sorted
 deriving DecidableEq,Inhabited
inductive Ty where|int|bool|tuple|list|str
 deriving DecidableEq,Inhabited
inductive Tg where|one (i:Nat)|two (i j:Nat)|many (is:List Nat)
 deriving DecidableEq,Inhabited
inductive Ar where|pos (i:Nat)|kw (i:Nat)|dft (j:Nat) (d:D)
 deriving Inhabited
inductive C where
 | v (i:Nat)
 | k (d:D)
 | bin (o:BOp) (a b:C)
 | neg (a:C)
 | cmp (o:COp) (a b:C)
 | isC (neg:Bool) (a:C) (d:D)
 | and (a b:C)|or (a b:C)|not (a:C)
 | ix (a b:C)
 | sl (a:C) (lo hi:Option C)
 | tup (as:List C)|lst (as:List C)
 | call (f:Nat) (as:List C)
 | bi (b:BI) (as:List C)
 | isi (a:C) (t:Ty)
 | ifx (c a b:C)
 | compS (e:C) (nl:Nat) (ks:List Nat) (tg:Tg) (src:C)
 | compR (e:C) (nl:Nat) (ks:List Nat) (tg:Tg) (rs:List C)
 | compZ (e:C) (nl:Nat) (ks:List Nat) (tg:Tg) (a b:C)
 | compE (e:C) (nl:Nat) (ks:List Nat) (tg:Tg) (a:C)
 | compF (e c:C) (nl:Nat) (ks:List Nat) (tg:Tg) (src:C)
 | revL (a:C)
 | cv (i:Nat) (as:List C)
 | lamc (f:Nat) (as:List C) (j:Nat) (ks:List Nat)
 deriving Inhabited
inductive S where
 | frz (is:List Nat)
 | set (i:Nat) (keep:Bool) (e:C)
 | app (i:Nat) (e:C)
 | ret (e:C)
 | ite (c:C) (a b:List S)
 | forS (tg:Tg) (src:C) (body:List S)
 | forR (tg:Tg) (rs:List C) (body:List S)
 | forZ (tg:Tg) (a b:C) (body:List S)
 | ext (i:Nat) (e:C)
 | asgL (is:List Nat) (e:C)
 | pop (tg:Tg) (i:Nat)
 | whl (c:C) (body:List S)
 | brk
 | cnt
 deriving Inhabited
abbrev R:=Bool×D
abbrev En:=List (Option R)
mutual
@[simp] noncomputable def aV:D->D->Bool
 | .non,.non=>true
 | .bl a,.bl b=>a == b
 | .bl a,.int b=>(if a then (1:Int) else 0) == b
 | .int a,.bl b=>a == (if b then (1:Int) else 0)
 | .int a,.int b=>a == b
 | .str a,.str b=>a == b
 | .tup xs,.tup ys=>jB xs ys
 | .lst xs,.lst ys=>jB xs ys
 | .dct a ks,.dct b js=>a == b&&ks == js
 | .obj a xs,.obj b ys=>a == b&&jB xs ys
 | _,_=>false
@[simp] noncomputable def jB:List D->List D->Bool
 | [],[]=>true
 | x::xs,y::ys=>aV x y&&jB xs ys
 | _,_=>false
end
mutual
@[simp] noncomputable def cF:Nat->D->Bool
 | 0,.tup _=>false
 | 0,.lst _=>false
 | n+1,.tup ds=>kR n ds
 | n+1,.lst ds=>kR n ds
 | _,_=>true
@[simp] noncomputable def kR:Nat->List D->Bool
 | _,[]=>true
 | n,d::ds=>cF n d&&kR n ds
end
mutual
@[simp] noncomputable def cg:D->Bool
 | .tup ds=>fh ds
 | .lst ds=>fh ds
 | .obj _ _=>false
 | _=>true
@[simp] noncomputable def fh:List D->Bool
 | []=>true
 | d::ds=>cg d&&fh ds
end
@[simp] noncomputable def om:D->D->Option Bool
 | .lst xs,.lst []=>some xs.isEmpty
 | _,_=>none
noncomputable def HX:Nat:=1000000
noncomputable def lim:Nat:=2^24
noncomputable def jg:Nat:=2^4000
noncomputable def iZ:Nat:=2^1048576
noncomputable def iX:Nat:=2^1048640
def h9 (a b:Int):Bool:=decide ((a.natAbs<2^240/\b.natAbs<2^240)∨a.natAbs<2^64∨b.natAbs<2^64∨(a.natAbs<iX/\b.natAbs<iX))
def aT (b:Int):Bool:=decide (b≠0/\(b.natAbs<2^240∨b.natAbs<jg))
noncomputable def qRO (a b:Int):Bool:=decide (0<=b/\b<=1000/\a.natAbs<2^64)
noncomputable def gR (a b:Int):Bool:=decide (a.natAbs<2^240/\0<=b/\b<=200)
noncomputable def gK (is:List Int):List Int:=is.mergeSort (λa b=>decide (a<=b))
noncomputable def qTF (i:Int):Str:=Qa (toString i)
def fD:BOp->D->D->Option R
 | .add,.int a,.int b=>some (false,.int (a+b))
 | .sub,.int a,.int b=>some (false,.int (a - b))
 | .mul,.int a,.int b=>if h9 a b then some (false,.int (a * b)) else none
 | .fdiv,.int a,.int b=>if aT b then some (false,.int (a.fdiv b)) else none
 | .mod,.int a,.int b=>if aT b then some (false,.int (a.fmod b)) else none
 | .pow,.int a,.int b=>if gR a b then some (false,.int (a^b.toNat)) else none
 | .shl,.int a,.int b=>if qRO a b then some (false,.int (a * 2^b.toNat)) else none
 | .shr,.int a,.int b=>if 0<=b then some (false,.int (a / 2^b.toNat)) else none
 | .band,.int a,.int b=>if 0<=a/\0<=b then some (false,.int ((a.toNat &&& b.toNat:Nat):Int)) else none
 | .bor,.int a,.int b=>if 0<=a/\0<=b then some (false,.int ((a.toNat ||| b.toNat:Nat):Int)) else none
 | .bxor,.int a,.int b=>if 0<=a/\0<=b then some (false,.int (((a.toNat ||| b.toNat:Nat):Int) - ((a.toNat &&& b.toNat:Nat):Int))) else none
 | .add,.lst a,.lst b=>if a.length+b.length<=lim then some (true,.lst (a++b)) else none
 | .add,.str a,.str b=>if a.length+b.length<=lim then some (false,.str (a++b)) else none
 | .add,.tup [],.tup b=>some (false,.tup b)
 | .add,.tup (x::a),.tup b=>if a.length+1+b.length<=lim then some (false,.tup (x::a++b)) else none
 | .mul,.lst a,.int b=>if a.length * b.toNat<=lim/\-(2^62)<b/\b<2^62 then some (true,.lst (List.replicate b.toNat a).flatten) else none
 | _,_,_=>none
@[simp] noncomputable def dY:List D->Option (List Int)
 | []=>some []
 | .int i::r=>(dY r).map (i::·)
 | _=>none
def hO (ys:List D) (x:D):Bool:=ys.any λy=>aV y x
@[simp] def uN (n:Bool):D->D->Option R
 | x,.tup ys=>if cF 19 x&&(cg x&&fh ys) then some (false,.bl (if n then !(hO ys x) else hO ys x)) else none
 | x,.lst ys=>if cF 19 x&&(cg x&&fh ys) then some (false,.bl (if n then !(hO ys x) else hO ys x)) else none
 | _,_=>none
@[simp] def gJ:COp->D->D->Option R
 | .isin,a,b=>uN false a b
 | .notin,a,b=>uN true a b
 | .eq,a,b=>if (cF 20 a||cF 20 b)&&(cg a&&cg b) then some (false,.bl (aV a b)) else none
 | .ne,a,b=>if (cF 20 a||cF 20 b)&&(cg a&&cg b) then some (false,.bl (!aV a b)) else (om a b).map λe=>(false,.bl (!e))
 | .lt,.int a,.int b=>some (false,.bl (decide (a<b)))
 | .le,.int a,.int b=>some (false,.bl (decide (a<=b)))
 | .gt,.int a,.int b=>some (false,.bl (decide (b<a)))
 | .ge,.int a,.int b=>some (false,.bl (decide (b<=a)))
 | _,_,_=>none
@[simp] noncomputable def ixN (n:Nat) (i:Int):Option Nat:=if 0<=i then (if i<n then some i.toNat else none) else if -(n:Int)<=i then some (i+n).toNat else none
@[simp] def iS (xs:List D) (i:Int):Option D:=(ixN xs.length i).bind λj=>xs[j]?
@[simp] noncomputable def cutAt (n d:Nat):Option Int->Nat
 | none=>d
 | some v=>if v<0 then (v+n).toNat else min v.toNat n
@[simp] def gI (xs:List D) (lo hi:Option Int):List D:=(xs.drop (cutAt xs.length 0 lo)).take (cutAt xs.length xs.length hi - cutAt xs.length 0 lo)
@[simp] noncomputable def oX:List D->Option (List Bool)
 | []=>some []
 | .bl i::r=>(oX r).map (i::·)
 | _=>none
noncomputable def j6:List Int->Option Int
 | []=>none
 | a::r=>some (r.foldl (λm x=>if x<m then x else m) a)
noncomputable def j3:List Int->Option Int
 | []=>none
 | a::r=>some (r.foldl (λm x=>if m<x then x else m) a)
noncomputable def br:List Int->List Int->Bool
 | [],[]=>false
 | [],_::_=>true
 | _::_,[]=>false
 | x::xs,y::ys=>if x=y then br xs ys else decide (x<y)
def k7:List D->Option (List (List Int))
 | []=>some []
 | .tup ds::r=>(dY ds).bind λis=>(k7 r).map (is::·)
 | _=>none
def kH (xs:List D):Option R:=match dY xs with
 | some is=>(j6 is).map λm=>(false,.int m)
 | none=>none
noncomputable def gM (ts:List (List Int)):List (List Int):=ts.mergeSort λa b=>!br b a
def jF (xs:List D):Option R:=match dY xs with
 | some is=>if is.length<64 then some (true,.lst ((gK is).map .int)) else none
 | none=>(k7 xs).bind λts=>if ∀t∈ts,t≠[] then some (true,.lst ((gM ts).map λt=>.tup (t.map .int))) else none
def lK:BI->List D->Option R
 | .len,[.tup xs]=>some (false,.int xs.length)
 | .len,[.lst xs]=>some (false,.int xs.length)
 | .abs,[.int i]=>some (false,.int (if i<0 then -i else i))
 | .min,[.int i,.int j]=>some (false,.int (if j<i then j else i))
 | .max,[.int i,.int j]=>some (false,.int (if j > i then j else i))
 | .max,[.int i,.int j,.int k]=>some (false,.int (if k > (if j > i then j else i) then k else (if j > i then j else i)))
 | .min,[.lst xs]=>kH xs
 | .max,[.lst xs]=>(dY xs).bind λis=>(j3 is).map λm=>(false,.int m)
 | .sum,[.lst xs]=>(dY xs).map λis=>(false,.int is.sum)
 | .all,[.lst xs]=>(oX xs).map λbs=>(false,.bl (bs.all id))
 | .sorted,[.lst xs]=>jF xs
 | .sorted,[.tup xs]=>(dY xs).bind λis=>if is.length<64 then some (true,.lst ((gK is).map .int)) else none
 | .any,[.lst xs]=>(oX xs).map λbs=>(false,.bl (bs.any id))
 | .str,[.int i]=>if i.natAbs<2^240 then some (false,.str (qTF i)) else none
 | .tuple,[.lst xs]=>some (false,.tup xs)
 | .tuple,[.tup xs]=>some (false,.tup xs)
 | .list,[.lst xs]=>some (true,.lst xs)
 | .list,[.tup xs]=>some (true,.lst xs)
 | .int,[.bl b]=>some (false,.int (if b then 1 else 0))
 | .int,[.int i]=>some (false,.int i)
 | _,_=>none
@[simp] noncomputable def nV:Ty->D->Bool
 | .int,.int _=>true
 | .int,.bl _=>true
 | .bool,.bl _=>true
 | .tuple,.tup _=>true
 | .list,.lst _=>true
 | .str,.str _=>true
 | _,_=>false
@[simp] def nU (t:Ty):D->Option R
 | .obj _ _=>none
 | d=>some (false,.bl (nV t d))
@[simp] noncomputable def lJ (neg:Bool):D->D->Option R
 | .obj _ _,.non=>some (false,.bl neg)
 | .obj _ _,_=>none
 | .non,.non=>some (false,.bl (!neg))
 | _,.non=>some (false,.bl neg)
 | .bl a,.bl b=>some (false,.bl (if a == b then !neg else neg))
 | _,.bl _=>some (false,.bl neg)
 | _,_=>none
@[simp] noncomputable def ao (Z:En) (i:Nat):Option R:=(Z[i]?).join
noncomputable def fq (Z:En):List Nat->List D->Option En
 | [],[]=>some Z
 | i::is,d::ds=>fq (Z.set i (some (false,d))) is ds
 | _,_=>none
def cN (Z:En):Tg->D->Option En
 | .one i,d=>some (Z.set i (some (false,d)))
 | .two i j,.tup [x,y]=>some ((Z.set i (some (false,x))).set j (some (false,y)))
 | .many is,.tup ds=>fq Z is ds
 | _,_=>none
noncomputable def fH (a b c:Int):Int:=if c > 0 then if a<b then (b - a - 1) / c+1 else 0 else if a > b then (a - b - 1) / -c+1 else 0
@[simp] def eg:List D->Option (List D)
 | [.int n]=>if -(2^62)<=n/\n<2^62 then some ((List.range n.toNat).map λi=>.int (i:Nat)) else none
 | [.int a,.int b]=>some ((List.range (b - a).toNat).map λi=>.int (a+(i:Nat)))
 | [.int a,.int b,.int c]=>if -(2^62)<=a/\a<2^62/\-(2^62)<=b/\b<2^62/\c≠0/\c.natAbs<2^30 then some ((List.range (fH a b c).toNat).map λi=>.int (a+(i:Nat) * c)) else none
 | _=>none
@[simp] noncomputable def bD:D->Option (List D)
 | .lst xs=>some xs
 | .tup xs=>some xs
 | _=>none
@[simp] noncomputable def fI:D->Option (List D)
 | .tup xs=>some xs
 | .lst xs=>some xs
 | _=>none
noncomputable def fm:Nat->List D->List D
 | _,[]=>[]
 | n,x::r=>.tup [.int (n:Nat),x]::fm (n+1) r
noncomputable def bN (a b:List D):List D:=List.zipWith (λx y=>.tup [x,y]) a b
def kU (f:En->Option R) (Z:En) (tg:Tg):List D->Option (List D)
 | []=>some []
 | x::r=>(cN Z tg x).bind fun Z'=>(f Z').bind λy=>(kU f Z tg r).bind λys=>some (y.2::ys)
noncomputable def rg (a b:Option (List D)):R->Option (List D)
 | (_,.bl true)=>a
 | (_,.bl false)=>b
 | _=>none
def pL (c f:En->Option R) (Z:En) (tg:Tg):List D->Option (List D)
 | []=>some []
 | x::r=>(cN Z tg x).bind fun Z'=>(c Z').bind (rg ((f Z').bind λy=>(pL c f Z tg r).bind λys=>some (y.2::ys)) (pL c f Z tg r))
@[simp] def bg (Z:En) (nl:Nat) (ks:List Nat):En:=List.replicate nl none++ks.map λj=>ao Z j
@[simp] noncomputable def aL:R->Option D
 | (false,d)=>some d
 | (true,.lst ds)=>some (.lst ds)
 | _=>none
@[simp] def pk (Z:En) (c:C) (r:Option R):Option D:=match c with
 | .v i=>(ao Z i).bind aL
 | _=>r.map (·.2)
@[simp] noncomputable def qr:R->Option D
 | (false,d)=>some d
 | (true,.dct _ ks)=>some (.dct false ks)
 | _=>none
@[simp] def ag (Z:En) (c:C) (r:Option R):Option D:=match c with
 | .v i=>(ao Z i).bind qr
 | _=>r.map (·.2)
noncomputable def CL:Nat:=1099511627776
mutual
def bO:D->Bool
 | .tup ds=>dv ds
 | .lst ds=>dv ds
 | .obj kn ds=>decide (kn.c<CL)&&dv ds
 | _=>true
def dv:List D->Bool
 | []=>true
 | d::ds=>bO d&&dv ds
end
def AQ (call:Nat->List D->Option R) (xs:List D):R->Option R
 | (false,.obj kn ds)=>if (decide (CL<=kn.c)&&(dv xs&&dv ds))=true then call (kn.c - CL) (xs++ds) else none
 | _=>none
def oj (r:R):Option R:=if bO r.2=true then some r else none
def md (Z:En):List Nat->Option (List D)
 | []=>some []
 | k::ks=>match ao Z k with
  | some (false,d)=>(md Z ks).map (d::·)
  | _=>none
def rN:D->Option R
 | .lst xs=>if xs.length<=lim then some (true,.lst xs.reverse) else none
 | _=>none
@[simp] noncomputable def rq:D->Option (Option Int)
 | .int i=>some (some i)
 | _=>none
@[simp] noncomputable def rp:D->Option R
 | .int i=>some (false,.int (-i))
 | _=>none
@[simp] def uM:D->D->Option R
 | .lst xs,.int i=>(iS xs i).map (false,·)
 | .tup xs,.int i=>(iS xs i).map (false,·)
 | _,_=>none
@[simp] def qZ (l h:Option Int):D->Option R
 | .lst xs=>some (true,.lst (gI xs l h))
 | .tup xs=>some (false,.tup (gI xs l h))
 | _=>none
@[simp] noncomputable def vU (k:Option R):R->Option R
 | (_,.bl true)=>k
 | (_,.bl false)=>some (false,.bl false)
 | _=>none
@[simp] noncomputable def AK (k:Option R):R->Option R
 | (_,.bl true)=>some (false,.bl true)
 | (_,.bl false)=>k
 | _=>none
@[simp] noncomputable def vZ:R->Option R
 | (_,.bl c)=>some (false,.bl (!c))
 | _=>none
@[simp] noncomputable def AN (a b:Option R):R->Option R
 | (_,.bl true)=>a
 | (_,.bl false)=>b
 | _=>none
@[simp] noncomputable def kP:Option R->Option R
 | some (false,d)=>some (false,d)
 | _=>none
noncomputable def arD (xs zs:List D):Ar->Option D
 | .pos i=>xs[i]?
 | .kw i=>zs[i]?
 | .dft _ d=>some d
def aF (xs zs:List D):List Ar->Option (List D)
 | []=>some []
 | a::r=>(arD xs zs a).bind λx=>(aF xs zs r).bind λys=>some (x::ys)
section
variable (call:Nat->List D->Option R)
mutual
def aa (Z:En):C->Option R
 | .v i=>kP (ao Z i)
 | .k d=>some (false,d)
 | .bin o a b=>(pk Z a (aa Z a)).bind λx=>(pk Z b (aa Z b)).bind λy=>fD o x y
 | .neg a=>(pk Z a (aa Z a)).bind rp
 | .cmp o a b=>(pk Z a (aa Z a)).bind λx=>(pk Z b (aa Z b)).bind λy=>gJ o x y
 | .isC n a d=>(pk Z a (aa Z a)).bind λx=>lJ n x d
 | .and a b=>(aa Z a).bind (vU (aa Z b))
 | .or a b=>(aa Z a).bind (AK (aa Z b))
 | .not a=>(aa Z a).bind vZ
 | .ix a b=>(pk Z a (aa Z a)).bind λx=>(pk Z b (aa Z b)).bind λy=>uM x y
 | .sl a lo hi=>(pk Z a (aa Z a)).bind λx=>(gC Z lo).bind λl=>(gC Z hi).bind λh=>qZ l h x
 | .tup as=>(cY Z as).bind λxs=>if xs.length<=lim then some (false,.tup xs) else none
 | .lst as=>(cY Z as).bind λxs=>if xs.length<=lim then some (true,.lst xs) else none
 | .call f as=>(eU Z as).bind λxs=>call f xs
 | .bi b as=>(bY Z as).bind λxs=>lK b xs
 | .isi a t=>(pk Z a (aa Z a)).bind (nU t)
 | .ifx c a b=>(aa Z c).bind (AN (aa Z a) (aa Z b))
 | .compS e nl ks tg src=>(pk Z src (aa Z src)).bind λx=>(bD x).bind λits=>(kU (fun Z'=>aa Z' e) (bg Z nl ks) tg its).bind λys=>some (true,.lst ys)
 | .compR e nl ks tg rs=>(bY Z rs).bind λx=>(eg x).bind λits=>if its.length<=lim then (kU (fun Z'=>aa Z' e) (bg Z nl ks) tg its).bind λys=>some (true,.lst ys) else none
 | .compZ e nl ks tg a b=>(aa Z a).bind λx=>(aa Z b).bind λy=>(bD x.2).bind λxs=>(fI y.2).bind λys =>
   (kU (fun Z'=>aa Z' e) (bg Z nl ks) tg (bN xs ys)).bind λzs=>some (true,.lst zs)
 | .compE e nl ks tg a=>(aa Z a).bind λx=>(bD x.2).bind λxs=>(kU (fun Z'=>aa Z' e) (bg Z nl ks) tg (fm 0 xs)).bind λzs=>some (true,.lst zs)
 | .compF e c nl ks tg src=>(aa Z src).bind λx=>(bD x.2).bind λits=>(pL (fun Z'=>aa Z' c) (fun Z'=>aa Z' e) (bg Z nl ks) tg its).bind λys=>some (true,.lst ys)
 | .revL a=>(pk Z a (aa Z a)).bind rN
 | .cv i as=>(cY Z as).bind λxs=>(ao Z i).bind (AQ call xs)
 | .lamc f as j ks=>(cY Z as).bind λxs=>(md Z ks).bind λds=>(call f (xs++[.obj ⟨CL+j,[]⟩ ds])).bind oj
termination_by structural c=>c
def cY (Z:En):List C->Option (List D)
 | []=>some []
 | a::r=>(aa Z a).bind λx=>(cY Z r).bind λxs=>some (x.2::xs)
termination_by structural c=>c
def bY (Z:En):List C->Option (List D)
 | []=>some []
 | a::r=>(pk Z a (aa Z a)).bind λx=>(bY Z r).bind λxs=>some (x::xs)
termination_by structural c=>c
def eU (Z:En):List C->Option (List D)
 | []=>some []
 | a::r=>(ag Z a (aa Z a)).bind λx=>(eU Z r).bind λxs=>some (x::xs)
termination_by structural c=>c
def gC (Z:En):Option C->Option (Option Int)
 | none=>some none
 | some c=>(pk Z c (aa Z c)).bind rq
termination_by structural c=>c
end
inductive Ou where|nx (Z:En)|rt (r:R)|bk (Z:En)|ct (Z:En)
@[simp] def frz1 (Z:En) (i:Nat):En:=match ao Z i with|some (true,.lst ds)=>Z.set i (some (false,.lst ds))|_=>Z
@[simp] noncomputable def dW (keep:Bool) (r:R):R:=(keep&&r.1,r.2)
def kN (f:En->Option Ou) (tg:Tg):List D->En->Option Ou
 | [],Z=>some (.nx Z)
 | x::r,Z=>(cN Z tg x).bind fun Z1=>(f Z1).bind λo=>match o with
   | .nx Z2=>kN f tg r Z2
   | .ct Z2=>kN f tg r Z2
   | .bk Z2=>some (.nx Z2)
   | .rt v=>some (.rt v)
@[simp] noncomputable def vW (a b:Option Ou):R->Option Ou
 | (_,.bl true)=>a
 | (_,.bl false)=>b
 | _=>none
@[simp] def iJ (Z:En) (i:Nat) (e:D):Option Ou:=match ao Z i with
 | some (true,.lst xs)=>if xs.length<lim then some (.nx (Z.set i (some (true,.lst (xs++[e]))))) else none
 | _=>none
@[simp] noncomputable def vM:R->Option R
 | (false,d)=>some (false,d)
 | (true,.lst ds)=>some (true,.lst ds)
 | _=>none
@[simp] def eM (Z:En) (c:C) (r:Option R):Option R:=match c with
 | .v i=>(ao Z i).bind vM
 | _=>r
@[simp] noncomputable def rV (k:En->Option Ou):Ou->Option Ou
 | .nx Z=>k Z
 | .rt r=>some (.rt r)
 | .bk Z=>some (.bk Z)
 | .ct Z=>some (.ct Z)
@[simp] noncomputable def kO (k:En->Option Ou):Ou->Option Ou
 | .nx Z=>k Z
 | .ct Z=>k Z
 | .bk Z=>some (.nx Z)
 | .rt r=>some (.rt r)
@[simp] noncomputable def rJ (Z:En) (k:Option Ou):R->Option Ou
 | (_,.bl true)=>k
 | (_,.bl false)=>some (.nx Z)
 | _=>none
def ie (c:En->Option R) (b:En->Option Ou):Nat->En->Option Ou
 | 0,_=>none
 | n+1,Z=>(c Z).bind (rJ Z ((b Z).bind (kO (ie c b n))))
@[simp] def n5 (Z:En) (i:Nat):R->Option Ou
 | (true,.lst ys)=>match ao Z i with
  | some (true,.lst xs)=>if xs.length+ys.length<=lim then some (.nx (Z.set i (some (true,.lst (xs++ys))))) else none
  | _=>none
 | (false,.tup ys)=>match ao Z i with
  | some (true,.lst xs)=>if xs.length+ys.length<=lim then some (.nx (Z.set i (some (true,.lst (xs++ys))))) else none
  | _=>none
 | _=>none
@[simp] def vV (Z:En) (is:List Nat):R->Option Ou
 | (_,.lst ds)=>(fq Z is ds).map .nx
 | (_,.tup ds)=>(fq Z is ds).map .nx
 | _=>none
@[simp] def ov (Z:En) (tg:Tg) (i:Nat):Option Ou:=match ao Z i with
 | some (true,.lst xs)=>(xs.getLast?).bind λd=>(cN (Z.set i (some (true,.lst xs.dropLast))) tg d).map .nx
 | _=>none
@[simp] noncomputable def qTA:R->Option (List D)
 | (true,.lst xs)=>some xs
 | _=>none
mutual
def dD (Z:En):S->Option Ou
 | .frz is=>some (.nx (is.foldl frz1 Z))
 | .set i keep e=>(aa call Z e).bind λr=>some (.nx (Z.set i (some (dW keep r))))
 | .app i e=>(aa call Z e).bind λx=>iJ Z i x.2
 | .ret e=>(eM Z e (aa call Z e)).bind λr=>some (.rt r)
 | .ite c a b=>(aa call Z c).bind (vW (ak Z a) (ak Z b))
 | .forS tg src body=>(aa call Z src).bind λx=>(bD x.2).bind λits=>kN (fun Z'=>ak Z' body) tg its Z
 | .forR tg rs body=>(bY call Z rs).bind λx=>(eg x).bind λits=>kN (fun Z'=>ak Z' body) tg its Z
 | .ext i e=>(aa call Z e).bind (n5 Z i)
 | .asgL is e=>(aa call Z e).bind (vV Z is)
 | .pop tg i=>ov Z tg i
 | .whl c body=>ie (fun Z'=>aa call Z' c) (fun Z'=>ak Z' body) jg Z
 | .brk=>some (.bk Z)
 | .cnt=>some (.ct Z)
 | .forZ tg a b body=>(aa call Z a).bind λx=>(aa call Z b).bind λy=>(bD x.2).bind λxs=>(fI y.2).bind λys=>kN (fun Z'=>ak Z' body) tg (bN xs ys) Z
termination_by structural c=>c
def ak (Z:En):List S->Option Ou
 | []=>some (.nx Z)
 | a::r=>(dD Z a).bind (rV fun Z'=>ak Z' r)
termination_by structural c=>c
end
end
section
variable (call:Nat->List D->Option R) (Z:En)
def cB (e:C) (Z:En) (tg:Tg) (its:List D):Option (List D):=kU (fun Z'=>aa call Z' e) Z tg its
def iN (c e:C) (Z:En) (tg:Tg) (its:List D):Option (List D):=pL (fun Z'=>aa call Z' c) (fun Z'=>aa call Z' e) Z tg its
def bV (body:List S) (tg:Tg) (its:List D) (Z:En):Option Ou:=kN (fun Z'=>ak call Z' body) tg its Z
@[simp] theorem wu (i):aa call Z (.v i)=kP (ao Z i):=rfl
@[simp] theorem yj (o a b):aa call Z (.bin o a b)=(pk Z a (aa call Z a)).bind λx=>(pk Z b (aa call Z b)).bind λy=>fD o x y:=rfl
@[simp] theorem ym (a):aa call Z (.neg a)=(pk Z a (aa call Z a)).bind rp:=rfl
@[simp] theorem sJ (o a b):aa call Z (.cmp o a b)=(pk Z a (aa call Z a)).bind λx=>(pk Z b (aa call Z b)).bind λy=>gJ o x y:=rfl
@[simp] theorem sN (n a d):aa call Z (.isC n a d)=(pk Z a (aa call Z a)).bind λx=>lJ n x d:=rfl
@[simp] theorem yi (a b):aa call Z (.and a b)=(aa call Z a).bind (vU (aa call Z b)):=rfl
@[simp] theorem xM (a b):aa call Z (.or a b)=(aa call Z a).bind (AK (aa call Z b)):=rfl
@[simp] theorem yn (a):aa call Z (.not a)=(aa call Z a).bind vZ:=rfl
@[simp] theorem xK (a b):aa call Z (.ix a b)=(pk Z a (aa call Z a)).bind λx=>(pk Z b (aa call Z b)).bind λy=>uM x y:=rfl
@[simp] theorem xN (a lo hi):aa call Z (.sl a lo hi)=(pk Z a (aa call Z a)).bind λx=>(gC call Z lo).bind λl=>(gC call Z hi).bind λh=>qZ l h x:=rfl
@[simp] theorem iO (as):aa call Z (.tup as)=(cY call Z as).bind λxs=>if xs.length<=lim then some (false,.tup xs) else none:=rfl
@[simp] theorem yk (as):aa call Z (.lst as)=(cY call Z as).bind λxs=>if xs.length<=lim then some (true,.lst xs) else none:=rfl
@[simp] theorem mP (f as):aa call Z (.call f as)=(eU call Z as).bind λxs=>call f xs:=rfl
@[simp] theorem yo:eU call Z []=some []:=rfl
@[simp] theorem jT (a r):eU call Z (a::r)=(ag Z a (aa call Z a)).bind λx=>(eU call Z r).bind λxs=>some (x::xs):=rfl
@[simp] theorem sj (b as):aa call Z (.bi b as)=(bY call Z as).bind λxs=>lK b xs:=rfl
@[simp] theorem qN5 (a t):aa call Z (.isi a t)=(pk Z a (aa call Z a)).bind (nU t):=rfl
@[simp] theorem sM (c a b):aa call Z (.ifx c a b)=(aa call Z c).bind (AN (aa call Z a) (aa call Z b)):=rfl
@[simp] theorem zX (e nl ks tg src):aa call Z (.compS e nl ks tg src)=(pk Z src (aa call Z src)).bind λx=>(bD x).bind λits=>(cB call e (bg Z nl ks) tg its).bind λys=>some (true,.lst ys):=rfl
@[simp] theorem zW (e nl ks tg rs):aa call Z (.compR e nl ks tg rs)=(bY call Z rs).bind λx=>(eg x).bind λits=>if its.length<=lim then (cB call e (bg Z nl ks) tg its).bind λys=>some (true,.lst ys) else none:=rfl
@[simp] theorem zY (e nl ks tg a b):aa call Z (.compZ e nl ks tg a b)=(aa call Z a).bind λx=>(aa call Z b).bind λy=>(bD x.2).bind λxs=>(fI y.2).bind λys =>
   (cB call e (bg Z nl ks) tg (bN xs ys)).bind λzs=>some (true,.lst zs):=rfl
@[simp] theorem zV (e nl ks tg a):aa call Z (.compE e nl ks tg a)=(aa call Z a).bind λx=>(bD x.2).bind λxs=>(cB call e (bg Z nl ks) tg (fm 0 xs)).bind λzs=>some (true,.lst zs):=rfl
@[simp] theorem pV (e c nl ks tg src):aa call Z (.compF e c nl ks tg src)=(aa call Z src).bind λx=>(bD x.2).bind λits=>(iN call c e (bg Z nl ks) tg its).bind λys=>some (true,.lst ys):=rfl
@[simp] theorem zf (a):aa call Z (.revL a)=(pk Z a (aa call Z a)).bind rN:=rfl
@[simp] theorem xJ (i as):aa call Z (.cv i as)=(cY call Z as).bind λxs=>(ao Z i).bind (AQ call xs):=rfl
@[simp] theorem qKR (f as j ks):aa call Z (.lamc f as j ks)=(cY call Z as).bind λxs=>(md Z ks).bind λds=>(call f (xs++[.obj ⟨CL+j,[]⟩ ds])).bind oj:=rfl
@[simp] theorem iM:cY call Z []=some []:=rfl
@[simp] theorem dC (a r):cY call Z (a::r)=(aa call Z a).bind λx=>(cY call Z r).bind λxs=>some (x.2::xs):=rfl
@[simp] theorem gh:bY call Z []=some []:=rfl
@[simp] theorem tN (a r):bY call Z (a::r)=(pk Z a (aa call Z a)).bind λx=>(bY call Z r).bind λxs=>some (x::xs):=rfl
@[simp] theorem qRu:gC call Z none=some none:=rfl
@[simp] theorem zg (c):gC call Z (some c)=(pk Z c (aa call Z c)).bind rq:=rfl
@[simp] theorem xU (i keep e):dD call Z (.set i keep e)=(aa call Z e).bind λr=>some (.nx (Z.set i (some (dW keep r)))):=rfl
@[simp] theorem yp (i e):dD call Z (.app i e)=(aa call Z e).bind λx=>iJ Z i x.2:=rfl
@[simp] theorem pN (e):dD call Z (.ret e)=(eM Z e (aa call Z e)).bind λr=>some (.rt r):=rfl
@[simp] theorem yq (c a b):dD call Z (.ite c a b)=(aa call Z c).bind (vW (ak call Z a) (ak call Z b)):=rfl
@[simp] theorem zi (tg src body):dD call Z (.forS tg src body)=(aa call Z src).bind λx=>(bD x.2).bind λits=>bV call body tg its Z:=rfl
@[simp] theorem zh (tg rs body):dD call Z (.forR tg rs body)=(bY call Z rs).bind λx=>(eg x).bind λits=>bV call body tg its Z:=rfl
@[simp] theorem sO (i e):dD call Z (.ext i e)=(aa call Z e).bind (n5 Z i):=rfl
@[simp] theorem tJ (is e):dD call Z (.asgL is e)=(aa call Z e).bind (vV Z is):=rfl
@[simp] theorem yr (tg i):dD call Z (.pop tg i)=ov Z tg i:=rfl
@[simp] theorem xV (c body):dD call Z (.whl c body)=ie (fun Z'=>aa call Z' c) (fun Z'=>ak call Z' body) jg Z:=rfl
@[simp] theorem qSz:dD call Z .brk=some (.bk Z):=rfl
@[simp] theorem qSy:dD call Z .cnt=some (.ct Z):=rfl
@[simp] theorem zj (tg a b body):dD call Z (.forZ tg a b body)=(aa call Z a).bind λx=>(aa call Z b).bind λy=>(bD x.2).bind λxs=>(fI y.2).bind λys=>bV call body tg (bN xs ys) Z:=rfl
@[simp] theorem eD (a r):ak call Z (a::r)=(dD call Z a).bind (rV fun Z'=>ak call Z' r):=rfl
theorem Ao (body tg x r):bV call body tg (x::r) Z=(cN Z tg x).bind fun Z1=>(ak call Z1 body).bind λo=>kO (bV call body tg r) o:=by
 show (cN Z tg x).bind _=(cN Z tg x).bind _
 congr
theorem qFz (e tg x r):cB call e Z tg (x::r)=(cN Z tg x).bind fun Z1=>(aa call Z1 e).bind λy=>(cB call e Z tg r).bind λys=>some (y.2::ys):=rfl
theorem qEU (c e tg x r):iN call c e Z tg (x::r)=(cN Z tg x).bind fun Z1=>(aa call Z1 c).bind (rg ((aa call Z1 e).bind λy=>(iN call c e Z tg r).bind λys=>some (y.2::ys)) (iN call c e Z tg r)):=rfl
theorem fO {α:Type}{e:C}{tg:Tg}(enc g:α->D):∀(l:List α),(∀x∈l,∃Z' b,cN Z tg (enc x)=some Z'/\aa call Z' e=some (b,g x))->cB call e Z tg (l.map enc)=some (l.map g)
 | [],_=>rfl
 | x::r,h=>by
  obtain⟨Z',b,h1,h2⟩:=h x bh
  simp [qFz,h1,h2,fO enc g r λy hy=>h y (bC _ hy)]
end
theorem qf {call:Nat->List D->Option R}{Z:En}{α:Type}{c e:C}{tg:Tg}(enc g:α->D) (p:α->Bool):∀(l:List α),(∀x∈l,∃Z',cN Z tg (enc x)=some Z'/\aa call Z' c=some (false,.bl (p x))/\(p x=true->∃b,aa call Z' e=some (b,g x)))->iN call c e Z tg (l.map enc)=some ((l.filter p).map g)
 | [],_=>rfl
 | x::r,h=>by
  obtain⟨Z',h1,h2,h3⟩:=h x bh
  have ih:=qf enc g p r λy hy=>h y (bC _ hy)
  rw [cT,qEU,h1,bL,h2,bL,ih]
  cases hp:p x with
  | false=>rw [List.filter_cons_of_neg (by simp [hp])];rfl
  | true =>
   obtain⟨b,hb⟩:=h3 hp
   rw [List.filter_cons_of_pos hp]
   show (aa call Z' e).bind _=_
   rw [hb]
   rfl
theorem uq {α:Type}(f:α->Int):∀l:List α,dY (l.map λx=>.int (f x))=some (l.map f)
 | []=>rfl
 | x::r=>by simp [uq f r]
theorem qIO (xs:List D):∀(n i:Nat),(fm n xs)[i]?=xs[i]?.map λx=>.tup [.int ((n+i:Nat):Int),x]:=by
 induction xs with
 | nil=>intro n i;rfl
 | cons x r ih =>
  intro n i
  cases i with
  | zero=>rfl
  | succ i=>show (fm (n+1) r)[i]?=_;rw [ih,qR,show n+1+i=n+(i+1) by omega]
theorem uF (xs:List D):∀n,(fm n xs).length=xs.length:=by
 induction xs with
 | nil=>intro n;rfl
 | cons x r ih=>intro n;show (fm (n+1) r).length+1=_;rw [ih];rfl
structure Fd where
 np:Nat
 ns:Nat
 body:List S
@[simp] noncomputable def qTK:Ou->Option R
 | .nx _=>some (false,.non)
 | .rt r=>some r
 | _=>none
@[simp] noncomputable def bX:Bool->List D->En
 | _,[]=>[]
 | true,.dct _ _::r=>none::bX true r
 | false,.dct m ks::r=>some (true,.dct m ks)::bX true r
 | b,d::r=>some (false,d)::bX b r
def i0 (call:Nat->List D->Option R) (fd:Fd) (as:List D):Option R:=
 if as.length=fd.np then (ak call (bX false as++List.replicate (fd.ns - fd.np) none) fd.body).bind qTK else none
@[simp] def qTL:Ou->Option R
 | .nx Z=>(ao Z 0).bind λr=>(qTA r).map λxs=>(true,.lst xs)
 | _=>none
def qTr (call:Nat->List D->Option R) (fd:Fd):List D->Option R
 | .lst xs::as=>if as.length+1=fd.np then (ak call (some (true,.lst xs)::as.map (λd=>some (false,d))++List.replicate (fd.ns - fd.np) none) fd.body).bind qTL else none
 | _=>none
def aD (tab:List Fd):Nat->Nat->List D->Option R
 | 0,_,_=>none
 | n+1,f,as=>match tab[f]? with
  | some fd=>i0 (aD tab n) fd as
  | none=>if HX<=f then (match tab[f - HX]? with|some fd=>qTr (aD tab n) fd as|none=>none) else none
theorem mN {tab:List Fd}{f:Nat}{fd:Fd}(h:tab[f]?=some fd) (n:Nat) (as:List D):aD tab (n+1) f as=i0 (aD tab n) fd as:=by
 rw [aD,h]
end Dw
namespace Dw
open PySem
structure Gx where
 defs:List (Str×Nat)
 cons:List (Str×Int):=[]
 dfl:List (Str×Nat×Int):=[]
noncomputable def wA (x:Str) (n:Nat):Option BI:=
 if x=Qa "sorted" then (if n=1 then some .sorted else none) else none
def rB (x:Str) (n:Nat):Option BI:=
 if x=Qa "len" then (if n=1 then some .len else none) else
 if x=Qa "min" then (if n=2∨n=1 then some .min else none) else
 if x=Qa "max" then (if n=2∨n=3∨n=1 then some .max else none) else
 if x=Qa "sum" then (if n=1 then some .sum else none) else
 if x=Qa "tuple" then (if n=1 then some .tuple else none) else
 if x=Qa "list" then (if n=1 then some .list else none) else
 if x=Qa "int" then (if n=1 then some .int else none) else wA x n
noncomputable def oz (x:Str):Option Ty:=
 if x=Qa "int" then some .int else
 if x=Qa "bool" then some .bool else
 if x=Qa "tuple" then some .tuple else
 if x=Qa "list" then some .list else
 if x=Qa "str" then some .str else none
noncomputable def wm:Operator->Option BOp
 | .Add=>some .add|.Sub=>some .sub|.Mult=>some .mul|.FloorDiv=>some .fdiv|.Mod=>some .mod|.Pow=>some .pow|.BitAnd=>some .band|.BitOr=>some .bor|_=>none
noncomputable def wq:CmpOp->Option COp
 | .Eq=>some .eq|.NotEq=>some .ne|.Lt=>some .lt|.LtE=>some .le|.Gt=>some .gt|.GtE=>some .ge|_=>none
noncomputable def qg:Const->Option D
 | .int i=>some (.int i)|.bool b=>some (.bl b)|.none=>some .non|.str x=>some (.str x)|_=>none
noncomputable def bF (N:List Str) (x:Str):Option Nat:=N.findIdx? (· == x)
noncomputable def jD (sc:Scope) (x:Str):Bool:=sc.names.lookup x == some .local||sc.names.lookup x == some .cell||sc.names.lookup x == some .free
noncomputable def bt (sc:Scope) (x:Str):Bool:=sc.names.lookup x == some .globalImplicit
noncomputable def fN (x:Str):Bool:=x != Qa "__debug__"&&x != Qa "__classdict__"&&x != Qa "__name__"
def cV (sc:Scope) (N:List Str) (x:Str):Option Nat:=if jD sc x&&fN x then bF N x else none
noncomputable def jw (sc:Scope) (x:Str):Bool:=sc.names.lookup x == some .cell||sc.names.lookup x == some .free
def hZ (sc:Scope) (N:List Str) (x:Str):Option Nat:=if jw sc x then cV sc N x else none
noncomputable def aG (sc:Scope):List Str:=(sc.names.filter λp=>p.2 == .local&&p.1 != Qa ".0").map (·.1)
noncomputable def aB (sc:Scope):List Str:=(sc.names.filter λp=>p.2 == .free).map (·.1)
def pP (sc:Scope):Bool:=sc.kind == .function&&sc.names.all (λp=>p.2 != .cell)&&decide ((sc.names.map (·.1)).Nodup)&&(aG sc++aB sc).all fN
noncomputable def cm {α β:Type}(f:α->Option β):List α->Option (List β)
 | []=>some []
 | a::r=>(f a).bind λx=>(cm f r).bind λxs=>some (x::xs)
def dQ (sc:Scope) (N:List Str):Expr->Option Nat
 | .Name x _=>if sc.names.lookup x == some .local||sc.names.lookup x == some .cell then bF N x else none
 | _=>none
def fg (sc:Scope) (N:List Str):Expr->Option Tg
 | .Name x _=>if sc.names.lookup x == some .local||sc.names.lookup x == some .cell then (bF N x).map .one else none
 | .Tuple [.Name x _,.Name y _] _ _=>if (sc.names.lookup x == some .local||sc.names.lookup x == some .cell)&&(sc.names.lookup y == some .local||sc.names.lookup y == some .cell)&&x != y then
   (bF N x).bind λi=>(bF N y).bind λj=>some (.two i j) else none
 | _=>none
def fe (sc:Scope) (N:List Str) (e:Expr):Option Tg:=match fg sc N e with
 | some t=>some t
 | none=>match e with
  | .Tuple es _ _=>(cm (dQ sc N) es).map .many
  | _=>none
inductive Sr where|seq (e:Expr)|rng (es:List Expr)|zip (a b:Expr)|rev (es:List Expr)|enm (a:Expr)
def jE (sc:Scope):Expr->Sr
 | .Call (.Name f p) as [] pos =>
  if bt sc f&&f == Qa "range"&&(as.length == 1||as.length == 2||as.length == 3) then .rng as else
  if bt sc f&&f == Qa "zip" then (match as with|[a,b]=>.zip a b|_=>.seq (.Call (.Name f p) as [] pos)) else
  if bt sc f&&f == Qa "reversed" then (match as with
   | [.Call (.Name h _) [a] [] _]=>if bt sc h&&h == Qa "range" then .rev [a] else .seq (.Call (.Name f p) as [] pos)
   | _=>.seq (.Call (.Name f p) as [] pos)) else
  if bt sc f&&f == Qa "enumerate" then (match as with|[a]=>.enm a|_=>.seq (.Call (.Name f p) as [] pos)) else .seq (.Call (.Name f p) as [] pos)
 | e=>.seq e
noncomputable def my:Tg->Bool
 | .two _ _=>true
 | _=>false
variable (G:Gx)
def rO (sc:Scope) (f:Str):List Expr->Option Expr
 | [.Call (.Name h _) [a] [] _]=>if f == Qa "list"&&h == Qa "reversed"&&bt sc h&&(G.defs.lookup h).isNone then some a else none
 | _=>none
noncomputable def nk (f:Str) (n:Nat):List C:=match G.dfl.lookup f with
 | some (m,d)=>if n=m then [.k (.int d)] else []
 | none=>[]
def ka (sc:Scope) (x:Str):Option C:=if bt sc x&&fN x then (G.cons.lookup x).map λi=>.k (.int i) else none
noncomputable def n6 (op:CmpOp):Expr->Option (Bool×Const)
 | .Constant c _ _=>match op with|.Is=>some (false,c)|.IsNot=>some (true,c)|_=>none
 | _=>none
def ow:Expr->Option (Option Expr×Option Expr)
 | .Slice lo hi none _=>some (lo,hi)
 | _=>none
mutual
def cE:Nat->Scope->List Str->Expr->Option C
 | 0,_,_,_=>none
 | n+1,sc,N,e=>match e with
  | .Name x _=>match cV sc N x with|some i=>some (.v i)|none=>ka G sc x
  | .Constant c _ _=>(qg c).map .k
  | .BinOp a op b _=>(wm op).bind λo=>(cE n sc N a).bind λx=>(cE n sc N b).bind λy=>some (.bin o x y)
  | .UnaryOp .USub a _=>(cE n sc N a).map .neg
  | .UnaryOp .Not a _=>(cE n sc N a).map .not
  | .BoolOp .And es _=>if 2<=es.length then jv n sc N es else none
  | .BoolOp .Or es _=>if 2<=es.length then j9 n sc N es else none
  | .Compare a [op] [b] _=>(n6 op b).elim ((wq op).bind λo=>(cE n sc N a).bind λx=>(cE n sc N b).bind λy=>some (.cmp o x y)) λq=>(qg q.2).bind λd=>(cE n sc N a).bind λx=>some (.isC q.1 x d)
  | .Subscript a b _=>(ow b).elim ((cE n sc N a).bind λx=>(cE n sc N b).bind λy=>some (.ix x y)) λq=>(cE n sc N a).bind λx=>(cO n sc N q.1).bind λl=>(cO n sc N q.2).bind λh=>some (.sl x l h)
  | .Tuple es _ _=>(fu n sc N es).map .tup
  | .List es _=>(fu n sc N es).map .lst
  | .Call (.Name f _) as [] _=>if bt sc f&&fN f then oY n sc N f as else (cV sc N f).bind λi=>if as.isEmpty then none else (fu n sc N as).map (.cv i)
  | .IfExp t a b _=>(cE n sc N t).bind λc=>(cE n sc N a).bind λx=>(cE n sc N b).bind λy=>some (.ifx c x y)
  | e=>cX n sc N e
def cX:Nat->Scope->List Str->Expr->Option C
 | 0,_,_,_=>none
 | n+1,sc,N,e=>match e with
  | .ListComp e [⟨tg,it,fs,0⟩] sc' _ =>
   if pP sc' then
    (fe sc' (aG sc'++aB sc') tg).bind λt=>(cm (hZ sc N) (aB sc')).bind λks=>(cE n sc' (aG sc'++aB sc') e).bind λc =>
     match fs with
     | []=>match jE sc it with
       | .seq s=>(cE n sc N s).bind λx=>some (.compS c (aG sc').length ks t x)
       | .rng rs=>(fu n sc N rs).bind λxs=>some (.compR c (aG sc').length ks t xs)
       | .zip a b=>if my t then (cE n sc N a).bind λx=>(cE n sc N b).bind λy=>some (.compZ c (aG sc').length ks t x y) else none
       | .rev _=>none
       | .enm a=>if my t then (cE n sc N a).bind λx=>some (.compE c (aG sc').length ks t x) else none
     | [cd]=>(cE n sc' (aG sc'++aB sc') cd).bind λcc=>match jE sc it with
       | .seq s=>(cE n sc N s).bind λx=>some (.compF c cc (aG sc').length ks t x)
       | _=>none
     | _=>none
   else none
  | _=>none
def oY:Nat->Scope->List Str->Str->List Expr->Option C
 | 0,_,_,_,_=>none
 | n+1,sc,N,f,as=>match G.defs.lookup f with
  | some i=>if as.isEmpty then none else (fu n sc N as).map λxs=>.call i (xs++nk G f as.length)
  | none=>match f == Qa "isinstance",as with
   | true,[a,.Name t _]=>if bt sc t&&(G.defs.lookup t).isNone then (oz t).bind λty=>(cE n sc N a).bind λx=>some (.isi x ty) else none
   | false,as=>match rO G sc f as with
    | some a=>(cE n sc N a).map .revL
    | none=>(rB f as.length).bind λb=>(fu n sc N as).map (.bi b)
   | _,_=>none
def fu:Nat->Scope->List Str->List Expr->Option (List C)
 | 0,_,_,_=>none
 | n+1,sc,N,es=>match es with
  | []=>some []
  | a::r=>(cE n sc N a).bind λx=>(fu n sc N r).bind λxs=>some (x::xs)
def cO:Nat->Scope->List Str->Option Expr->Option (Option C)
 | 0,_,_,_=>none
 | n+1,sc,N,o=>match o with
  | none=>some none
  | some e=>(cE n sc N e).map some
def jv:Nat->Scope->List Str->List Expr->Option C
 | 0,_,_,_=>none
 | n+1,sc,N,es=>match es with
  | [a]=>cE n sc N a
  | a::b::r=>(cE n sc N a).bind λx=>(jv n sc N (b::r)).bind λy=>some (.and x y)
  | []=>none
def j9:Nat->Scope->List Str->List Expr->Option C
 | 0,_,_,_=>none
 | n+1,sc,N,es=>match es with
  | [a]=>cE n sc N a
  | a::b::r=>(cE n sc N a).bind λx=>(j9 n sc N (b::r)).bind λy=>some (.or x y)
  | []=>none
end
def gN:Nat->List Str->List Stmt->List Nat
 | 0,_,_=>[]
 | _+1,_,[]=>[]
 | n+1,N,st::r=>(match st with
  | .Assign [.Subscript (.Name x _) _ _] _ _=>(bF N x).toList
  | .Expr (.Call (.Attribute (.Name x _) m _) _ _ _) _=>if m == Qa "append"||m == Qa "extend"||m == Qa "pop" then (bF N x).toList else []
  | .Assign _ (.Call (.Attribute (.Name x _) m _) _ _ _) _=>if m == Qa "pop" then (bF N x).toList else []
  | .Assign _ (.Subscript (.Call (.Attribute (.Name x _) m _) _ _ _) _ _) _=>if m == Qa "pop" then (bF N x).toList else []
  | .Expr (.Call (.Name _ _) (.Name x _::_) _ _) _=>(bF N x).toList
  | .If _ a b _=>gN n N a++gN n N b
  | .For _ _ b _ _=>gN n N b
  | .While _ b _ _=>gN n N b
  | _=>[])++gN n N r
noncomputable def fv (c:C) (r:List Nat):List Nat:=match c with
 | .v _=>[]
 | _=>r
mutual
def aQ:C->List Nat
 | .v i=>[i]
 | .k _=>[]
 | .bin _ a b=>fv a (aQ a)++fv b (aQ b)
 | .neg a=>fv a (aQ a)
 | .cmp _ a b=>fv a (aQ a)++fv b (aQ b)
 | .isC _ a _=>fv a (aQ a)
 | .and a b=>aQ a++aQ b
 | .or a b=>aQ a++aQ b
 | .not a=>aQ a
 | .ix a b=>fv a (aQ a)++fv b (aQ b)
 | .sl a _ _=>fv a (aQ a)
 | .tup as=>kG as
 | .lst as=>kG as
 | .call _ as=>kG as
 | .bi _ as=>oB as
 | .isi a _=>fv a (aQ a)
 | .ifx c a b=>aQ c++aQ a++aQ b
 | .compS e nl ks _ s=>fv s (aQ s)++(aQ e).filterMap λj=>if nl<=j then ks[j - nl]? else none
 | .compR e nl ks _ rs=>oB rs++(aQ e).filterMap λj=>if nl<=j then ks[j - nl]? else none
 | .compZ e nl ks _ a b=>aQ a++aQ b++(aQ e).filterMap λj=>if nl<=j then ks[j - nl]? else none
 | .compE e nl ks _ a=>aQ a++(aQ e).filterMap λj=>if nl<=j then ks[j - nl]? else none
 | .compF e c nl ks _ a=>aQ a++(aQ e++aQ c).filterMap λj=>if nl<=j then ks[j - nl]? else none
 | .revL a=>fv a (aQ a)
 | .cv _ as=>kG as
 | .lamc _ as _ _=>kG as
termination_by structural c=>c
def kG:List C->List Nat
 | []=>[]
 | a::r=>aQ a++kG r
termination_by structural c=>c
def oB:List C->List Nat
 | []=>[]
 | a::r=>fv a (aQ a)++oB r
termination_by structural c=>c
end
noncomputable def gf (mt:List Nat) (is:List Nat) (s:S):List S:=match is.filter (mt.contains ·) with
 | []=>[s]
 | js=>[.frz js,s]
def n4 (n:Nat) (sc:Scope) (N:List Str) (mt:List Nat) (x:Str) (e:Expr):Option (List S):=
 if sc.names.lookup x == some .local||sc.names.lookup x == some .cell then (bF N x).bind λi=>if i == 0&&mt.contains i then none else (cE G n sc N e).bind λc=>some (gf mt (aQ c) (.set i (mt.contains i) c)) else none
noncomputable def oM:Expr->Option Str
 | .Name x _=>some x
 | _=>none
noncomputable def nZ:Expr->Option (Str×Str×Pos)
 | .Attribute (.Name x _) m p2=>some (x,m,p2)
 | _=>none
def rG:Expr->Option (Str×Str×Pos×Pos)
 | .Call f [] [] p3=>(nZ f).map λy=>(y.1,y.2.1,y.2.2,p3)
 | _=>none
noncomputable def rH:Expr->Expr->Option (List Expr)
 | .Tuple es _ _,.Call _ _ _ _=>some es
 | .Tuple es _ _,.Name _ _=>some es
 | _,_=>none
def AU (n:Nat) (sc:Scope) (N:List Str) (mt:List Nat) (tg e:Expr):Option (List S):=match rG e with
 | some (x,m,p2,p3)=>if m == Qa "pop"&&p2.endLine == p3.line then (fe sc N tg).bind λt=>(cV sc N x).bind λi=>some [.pop t i] else (oM tg).bind λy=>n4 G n sc N mt y e
 | none=>match rH tg e with
  | some es=>(cm (dQ sc N) es).bind λis=>(cE G n sc N e).bind λc=>some (gf mt (aQ c) (.asgL is c))
  | none=>(oM tg).bind λx=>n4 G n sc N mt x e
mutual
def cS:Nat->Scope->List Str->List Nat->Stmt->Option (List S)
 | 0,_,_,_,_=>none
 | n+1,sc,N,mt,st=>match st with
  | .Assign [tg] e _=>AU G n sc N mt tg e
  | .Expr (.Call f [e] [] p3) _=>match nZ f with
   | some (x,m,p2)=>if m == Qa "append"&&p2.endLine == p3.line then (cV sc N x).bind λi=>(cE G n sc N e).bind λc=>some (gf mt (aQ c) (.app i c)) else
    if m == Qa "extend"&&p2.endLine == p3.line then (cV sc N x).bind λi=>(cE G n sc N e).bind λc=>some (gf mt (aQ c) (.ext i c)) else none
   | none=>none
  | .While t body [] _=>(cE G n sc N t).bind λc=>(eY n sc N mt body).bind λb=>some (gf mt (aQ c) (.whl c b))
  | .Return (some e) _=>(cE G n sc N e).bind λc=>some (gf mt (fv c (aQ c)) (.ret c))
  | .If t a b _=>(cE G n sc N t).bind λc=>(eY n sc N mt a).bind λx=>(eY n sc N mt b).bind λy=>some (gf mt (aQ c) (.ite c x y))
  | .For tg it body [] _=>(fe sc N tg).bind λt=>(eY n sc N mt body).bind λb=>match jE sc it with
   | .seq s=>(cE G n sc N s).bind λx=>some (gf mt (aQ x) (.forS t x b))
   | .rng rs=>(fu G n sc N rs).bind λxs=>some (gf mt (oB xs) (.forR t xs b))
   | .zip a z=>if my t then (cE G n sc N a).bind λx=>(cE G n sc N z).bind λy=>some (gf mt (aQ x++aQ y) (.forZ t x y b)) else none
   | _=>none
  | _=>none
def eY:Nat->Scope->List Str->List Nat->List Stmt->Option (List S)
 | 0,_,_,_,_=>none
 | n+1,sc,N,mt,st=>match st with
  | []=>some []
  | a::r=>(cS n sc N mt a).bind λx=>(eY n sc N mt r).bind λy=>some (x++y)
end
noncomputable def bP (sc:Scope):List Str:=(sc.names.filter λp=>p.2 == .local||p.2 == .cell).map (·.1)
end Dw
namespace L2
open PySem PySem.Spec PyProof.Rows
abbrev dE:=Sum Int Str
noncomputable def wd:dE->Value->Bool
 | .inl k,v=>Value.isInt k v
 | .inr x,v=>Value.isStrOf x v
noncomputable def qTD (w:World):dE->Int
 | .inl k=>hashInt k
 | .inr x=>hashStr w x
theorem iQ:∀{k:dE}{v:Value},wd k v=true->(∃i t,k=Sum.inl i/\v=Value.int i t)∨(∃x t,k=Sum.inr x/\v=Value.str x t)
 | .inl i,v,h=>by
  obtain⟨t,e⟩:=Value.isInt_shape (k:=i) (v:=v) h
  exact .inl ⟨i,t,rfl,e⟩
 | .inr x,v,h=>by
  obtain⟨t,e⟩:=Value.isStrOf_shape (x:=x) (v:=v) h
  exact .inr ⟨x,t,rfl,e⟩
theorem qQm (a b:Int):decide ((Sum.inl a:dE)=Sum.inl b)=(a == b):=by
 by_cases e:a=b
 ·subst e;simp
 ·have h:¬(Sum.inl a:dE)=Sum.inl b:=λq=>e (Sum.inl.inj q)
  rw [Qj h]
  exact (beq_eq_false_iff_ne.mpr e).symm
theorem qQj (a b:Str):decide ((Sum.inr a:dE)=Sum.inr b)=decide (a=b):=by
 by_cases e:a=b
 ·subst e;simp
 ·have h:¬(Sum.inr a:dE)=Sum.inr b:=λq=>e (Sum.inr.inj q)
  rw [Qj h,Qj e]
theorem qQl (a:Int) (b:Str):decide ((Sum.inl a:dE)=Sum.inr b)=false:=Qj (λq=>nomatch q)
theorem qQk (a:Str) (b:Int):decide ((Sum.inr a:dE)=Sum.inl b)=false:=Qj (λq=>nomatch q)
def yQ (prog:Program) (w:World):PySem.KeyKind prog w dE where
 is:=wd
 hash:=qTD w
 inj:=λv a b ha hb=>by
  rcases iQ ha with ⟨i,t,rfl,rfl⟩|⟨x,t,rfl,rfl⟩
  ·rcases iQ hb with ⟨j,u,rfl,e⟩|⟨y,u,rfl,e⟩
   ·injection e with e1 _;rw [e1]
   ·exact nomatch e
  ·rcases iQ hb with ⟨j,u,rfl,e⟩|⟨y,u,rfl,e⟩
   ·exact nomatch e
   ·injection e with e1 _;rw [e1]
 byValue:=λk v h=>by
  rcases iQ h with ⟨i,t,rfl,rfl⟩|⟨x,t,rfl,rfl⟩<;>rfl
 pyHash:=λhv h=>by
  rcases iQ hv with ⟨i,t,rfl,rfl⟩|⟨x,t,rfl,rfl⟩
  ·exact wpAny_pyHash_int h
  ·exact wpAny_pyHash_str h
 eqBool:=λhu hv h=>by
  rcases iQ hu with ⟨i,t,rfl,rfl⟩|⟨x,t,rfl,rfl⟩
  ·rcases iQ hv with ⟨j,u,rfl,rfl⟩|⟨y,u,rfl,rfl⟩
   ·rw [qQm] at h;exact wpAny_eqBool_int h
   ·rw [qQl] at h;exact SeqAt.EqAt.int_str i t y u _ _ _ _ h
  ·rcases iQ hv with ⟨j,u,rfl,rfl⟩|⟨y,u,rfl,rfl⟩
   ·rw [qQk] at h;exact SeqAt.EqAt.str_int x t j u _ _ _ _ h
   ·rw [qQj] at h;exact wpAny_eqBool_str h
 «strs»:=λk x t v h=>by
  rcases iQ h with ⟨i,u,rfl,e⟩|⟨y,u,rfl,e⟩
  ·exact nomatch e
  ·injection e with e1 _
   subst e1
   cases v<;>rfl
end L2
namespace L2
open PySem PySem.Spec PyProof.Rows
inductive V where
 | non|bl (b:Bool)|int (i:Int)|str (x:Str)|byt (b:Array UInt8)|flt (b:UInt64)|ref (a:Addr)|ty (n:String)
 deriving DecidableEq
def RelV:V->Value->Prop
 | .non,u=>u=Value.none
 | .bl b,u=>u=Value.bool b
 | .int i,u=>∃t,u=Value.int i t
 | .str x,u=>∃t,u=Value.str x t
 | .byt b,u=>∃t,u=Value.bytes b t
 | .flt b,u=>∃t,u=Value.float b t
 | .ref a,u=>u=Value.ref a
 | .ty n,u=>u=Value.type n
abbrev Vals:List V->List Value->Prop:=Paired RelV
theorem Vals.length {xs:List V}{us:List Value}(r:Vals xs us):xs.length=us.length:=Paired.length r
theorem Vals.get:∀{xs:List V}{us:List Value}{i:Nat}{x:V},Vals xs us->xs[i]?=some x->∃u,us[i]?=some u/\RelV x u
 | _,_,_,_,.nil,e=>by simp at e
 | _,_,0,_,.cons r _,e=>by simp at e;subst e;exact⟨_,rfl,r⟩
 | _,_,i+1,x,.cons _ t,e=>by
  obtain⟨u,h1,h2⟩:=Vals.get (i:=i) (x:=x) t (by simpa using e)
  exact⟨u,by simpa using h1,h2⟩
theorem Vals.append:∀{xs ys:List V}{us ws:List Value},Vals xs us->Vals ys ws->Vals (xs++ys) (us++ws)
 | _,_,_,_,.nil,s=>s
 | _,_,_,_,.cons r t,s=>.cons r (Vals.append t s)
theorem Vals.take:∀{xs:List V}{us:List Value}(n:Nat),Vals xs us->Vals (xs.take n) (us.take n)
 | _,_,0,_=>.nil
 | _,_,_+1,.nil=>.nil
 | _,_,n+1,.cons r t=>.cons r (Vals.take n t)
theorem Vals.drop:∀{xs:List V}{us:List Value}(n:Nat),Vals xs us->Vals (xs.drop n) (us.drop n)
 | _,_,0,r=>r
 | _,_,_+1,.nil=>.nil
 | _,_,n+1,.cons _ t=>Vals.drop n t
def vT:Option V->Option Value->Prop
 | some v,some u=>RelV v u
 | none,none=>True
 | _,_=>False
def KV {κ:Type}:List (κ×V)->List (κ×Value)->Prop:=Paired λ(p:κ×V) (q:κ×Value)=>p.1=q.1/\RelV p.2 q.2
noncomputable def kV:dE->V
 | .inl i=>.int i
 | .inr x=>.str x
inductive HO where
  | lst (xs:List V)
  | tup (xs:List V)
  | dK (kvs:List (dE×V))|dT (kvs:List (List dE×V))
  | set (S:Int->Bool) (n:Nat)
  | ins (C dx:Addr) (fs:List (Str×V))
  | own (x:Addr)
  | xd (fs:List (Str×V))
  | met (f x:Addr)
  | rng (lo hi:Int)
  | frz (o:Obj) (u:HO)
  | tbl (ps:Array Value)
 | tab (pos:Pos) (q:Str)
  | ext (φ:Heap->Prop)
abbrev Hp:=Addr->Option HO
noncomputable def av (H:Hp) (a:Addr) (o:HO):Hp:=λb=>if b=a then some o else H b
theorem dJ {H:Hp}{a:Addr}{o:HO}:av H a o a=some o:=by unfold av;rw [Ql rfl]
theorem ax {H:Hp}{a b:Addr}{o:HO}(h:b≠a):av H a o b=H b:=by unfold av;rw [Qm h]
theorem cf {H:Hp}{a b:Addr}{o:HO}(h:H a=some o) (h':H b=none):a≠b:=by
 intro e;subst e;rw [h] at h';cases h'
section
variable (P:Program) (w:World)
def ObjOk (H:Hp) (h:Heap) (a:Addr):HO->Prop
 | .lst xs=>xs.length<=sizeLine/\∃(its:List Value) (n:Nat),Vals xs its/\h.get? a=some { cls:=.type "list",data:=.seq its.toArray n }
 | .tup xs=>xs.length<=sizeLine/\∃its:List Value,Vals xs its/\IsTup h a its.toArray
 | .dK kvs=>kvs.length<=sizeLine/\(a == sysModules)=false/\∃vs,KV kvs vs/\h.DictOf (yQ P w) a vs
 | .dT kvs=>kvs.length<=sizeLine/\(a == sysModules)=false/\∃xs:List (List dE×Addr×Value),
   Paired (λ(p:List dE×V) (q:List dE×Addr×Value)=>p.1=q.1/\H q.2.1=some (.tup (p.1.map kV))/\RelV p.2 q.2.2) kvs xs /\
   ∃o es ep,h.get? a=some o/\o.ExactDict/\o.data=.dict es ep/\es.toList=xs.map (entryOfKey (tupleKind (yQ P w)))/\(xs.map (·.1)).Nodup
 | .set S n=>h.SetOf (intKind P w) a S n
 | .ins C dx fs=>H dx=some (.own a)/\fs.length<=1000/\dx≠a/\h.get? a=some (PySem.W.instObj C dx) /\
   ∃mA,h.Ns1 dx mA/\(∀f,vT (fs.lookup f) (mA f))/\PySem.Within mA (fs.map (·.1))
 | .own _=>∃o,h.get? a=some o
 | .xd fs=>∃mA,h.Ns1 a mA/\∀f,vT (fs.lookup f) (mA f)
 | .rng lo hi=>∃t u v,h.get? a=some { cls:=.type "range",data:=.fields #[.int lo t,.int hi u,.int 1 v] }
 | .frz o u=>h.get? a=some o/\ObjOk H h a u
 | .tbl ps=>h.get? a=some { cls:=.none,data:=.fields ps }
 | .met f x=>h.get? a=some (PySem.W.methodObj (.ref f) (.ref x))
 | .tab pos q=>∃ps:Array Value,h.get? a=some { cls:=.none,data:=.fields ps }/\PySem.TriplesOk ps.toList/\(PySem.codeAmong pos ps.toList=none ∨
   ∃(c:Addr) (oc:Obj) (u:HO) (vs:Array Value) (t:Tok),PySem.codeAmong pos ps.toList=some (.ref c)/\H c=some (.frz oc u)/\oc.data=.fields vs/\vs[1]?=some (.str q t))
 | .ext φ=>φ h/\(∃o,h.get? a=some o)/\∀h1 h2:Heap,φ h1->(∀o,h1.get? a=some o->h2.get? a=some o)->φ h2
def HOk (H:Hp) (h:Heap):Prop:=∀a o,H a=some o->ObjOk P w H h a o
end
section
variable {P:Program}{w:World}{H H':Hp}{h h':Heap}{a:Addr}{o:HO}
theorem ObjOk.lt (x:ObjOk P w H h a o):a<h.objs.size:=by
 cases o with
 | lst xs=>obtain⟨_,_,_,_,e⟩:=x;exact Qi e
 | tup xs=>obtain⟨_,_,_,p⟩:=x;exact p.lt
 | dK kvs=>obtain⟨_,_,_,_,o,_,_,e,_⟩:=x;exact Qi e
 | dT kvs=>obtain⟨_,_,_,_,o,_,_,e,_⟩:=x;exact Qi e
 | set S n=>obtain⟨o,_,_,_,e,_⟩:=x;exact Qi e
 | ins C dx fs=>obtain⟨_,_,_,e,_⟩:=x;exact Qi e
 | own y=>obtain⟨_,e⟩:=x;exact Qi e
 | xd fs=>obtain⟨_,⟨_,_,_,e,_⟩,_⟩:=x;exact Qi e
 | rng lo hi=>obtain⟨_,_,_,e⟩:=x;exact Qi e
 | frz ob u=>obtain⟨e,_⟩:=x;exact Qi e
 | tbl ps=>exact Qi (show h.get? a=some _ from x)
 | met f y=>exact Qi (show h.get? a=some _ from x)
 | tab pos q=>obtain⟨_,e,_⟩:=x;exact Qi e
 | ext φ=>obtain⟨_,⟨_,e⟩,_⟩:=x;exact Qi e
theorem Paired.mapP {α β:Type}{F G:α->β->Prop}:∀{l₁:List α}{l₂:List β},Paired F l₁ l₂->(∀a b,F a b->G a b)->Paired G l₁ l₂
 | _,_,.nil,_=>.nil
 | _,_,.cons r t,f=>.cons (f _ _ r) (Paired.mapP t f)
theorem ObjOk.stay (x:ObjOk P w H h a o) (k:∀b u,(b=a∨H b=some (.own a))->h.get? b=some u->h'.get? b=some u)
  (ho:∀b,H b=some (.own a)->H' b=some (.own a)) (ht:∀b xs,H b=some (.tup xs)->H' b=some (.tup xs)) (hf:∀b ob u vs,H b=some (.frz ob u)->ob.data=.fields vs->H' b=some (.frz ob u)):ObjOk P w H' h' a o:=by
 induction o with
 | lst xs=>obtain⟨z,its,n,r,e⟩:=x;exact⟨z,its,n,r,k _ _ (.inl rfl) e⟩
 | tup xs=>obtain⟨z,its,r,ob,e,c⟩:=x;exact⟨z,its,r,ob,k _ _ (.inl rfl) e,c⟩
 | dK kvs=>obtain⟨z,y,vs,r,ob,es,ep,e,c⟩:=x;exact⟨z,y,vs,r,ob,es,ep,k _ _ (.inl rfl) e,c⟩
 | dT kvs =>
  obtain⟨z,y,xs,r,ob,es,ep,e,c⟩:=x
  exact⟨z,y,xs,Paired.mapP r λp q z=>⟨z.1,ht _ _ z.2.1,z.2.2⟩,ob,es,ep,k _ _ (.inl rfl) e,c⟩
 | set S n=>obtain⟨ob,es,ep,t,e,c⟩:=x;exact⟨ob,es,ep,t,k _ _ (.inl rfl) e,c⟩
 | ins C dx fs =>
  obtain⟨d,z,ne,e,mA,⟨od,es,ep,e2,c⟩,r⟩:=x
  exact⟨ho _ d,z,ne,k _ _ (.inl rfl) e,mA,⟨od,es,ep,k _ _ (.inr d) e2,c⟩,r⟩
 | own y=>obtain⟨ob,e⟩:=x;exact⟨ob,k _ _ (.inl rfl) e⟩
 | xd fs=>obtain⟨mA,⟨od,es,ep,e,c⟩,r⟩:=x;exact⟨mA,⟨od,es,ep,k _ _ (.inl rfl) e,c⟩,r⟩
 | rng lo hi=>obtain⟨t,u,v,e⟩:=x;exact⟨t,u,v,k _ _ (.inl rfl) e⟩
 | frz ob u ih=>obtain⟨e,q⟩:=x;exact⟨k _ _ (.inl rfl) e,ih q⟩
 | tbl ps =>
  have e:h.get? a=some { cls:=.none,data:=.fields ps }:=x
  show h'.get? a=some { cls:=.none,data:=.fields ps }
  exact k a _ (.inl rfl) e
 | met f y =>
  have e:h.get? a=some (PySem.W.methodObj (.ref f) (.ref y)):=x
  show h'.get? a=some (PySem.W.methodObj (.ref f) (.ref y))
  exact k a _ (.inl rfl) e
 | tab pos q =>
  obtain⟨ps,e,ok,r⟩:=x
  refine⟨ps,k _ _ (.inl rfl) e,ok,r.imp id ?_⟩
  rintro⟨c,oc,u,vs,t,e1,e2,e4,e5⟩
  exact⟨c,oc,u,vs,t,e1,hf _ _ _ _ e2 e4,e4,e5⟩
 | ext φ=>obtain⟨p,⟨o,e⟩,st⟩:=x;exact⟨st _ _ p λo q=>k _ _ (.inl rfl) q,⟨o,k _ _ (.inl rfl) e⟩,st⟩
theorem HOk.lt (x:HOk P w H h) (e:H a=some o):a<h.objs.size:=(x a o e).lt
theorem HOk.fresh (x:HOk P w H h) (e:h.objs.size<=a):H a=none:=by
 cases q:H a with
 | none=>rfl
 | some u=>exact Qn (bG (x.lt q) e) (fA _)
theorem HOk.kept (x:HOk P w H h) (k:∀b u,h.get? b=some u->h'.get? b=some u):HOk P w H h':=λa o e =>
 (x a o e).stay (λb u _ q=>k b u q) (λ_ q=>q) (λ_ _ q=>q) λ_ _ _ _ q _=>q
theorem HOk.laid (x:HOk P w H h) (k:∀b u,h.get? b=some u->h'.get? b=some u) (hp:h.objs.size<=a) (new:ObjOk P w (av H a o) h' a o):HOk P w (av H a o) h':=λb u e=>by
 have hn:=x.fresh hp
 by_cases hb:b=a
 ·subst hb;rw [dJ] at e;cases e;exact new
 ·rw [ax hb] at e
  exact (x b u e).stay (λc v _ q=>k c v q) (λc q=>by rw [ax (cf q hn)];exact q) (λc xs q=>by rw [ax (cf q hn)];exact q) λc ob u _ q _=>by rw [ax (cf q hn)];exact q
end
def Rd (H:Hp) (a:Addr) (u:HO):Prop:=H a=some u∨∃o,H a=some (.frz o u)
theorem Rd.ok {P:Program}{w:World}{H:Hp}{h:Heap}{a:Addr}{u:HO}(r:Rd H a u) (x:HOk P w H h):ObjOk P w H h a u:=by
 rcases r with r|⟨o,r⟩
 ·exact x a u r
 ·obtain⟨_,q⟩:=x a _ r
  exact q
def qw:Option HO->Prop
 | some (.lst _)=>True
 | some (.dK _)=>True
 | some (.dT _)=>True
 | some (.set _ _)=>True
 | some (.ins _ _ _)=>True
 | some (.ext _)=>True
 | _=>False
section
variable {P:Program}{w:World}{H:Hp}{h h':Heap}{x e:Addr}{o':HO}
theorem HOk.write (ok:HOk P w H h) (mu:qw (H x)) (he:e=x∨H e=some (.own x)) (k:∀b u,b≠e->h.get? b=some u->h'.get? b=some u) (heo:∃u,h'.get? e=some u)
  (new:ObjOk P w (av H x o') h' x o'):HOk P w (av H x o') h':=λb u q=>by
 have nown:∀c y,H c=some (.own y)->c≠x:=λc y r z=>by subst z;rw [r] at mu;exact mu
 have ntup:∀c xs,H c=some (.tup xs)->c≠x:=λc xs r z=>by subst z;rw [r] at mu;exact mu
 by_cases hb:b=x
 ·subst hb;rw [dJ] at q;cases q;exact new
 ·rw [ax hb] at q
  by_cases hbe:b=e
  ·have q':H b=some (.own x):=by
    rcases he with z|z
    ·exact Qn (hbe.trans z) hb
    ·rw [hbe];exact z
   rw [q] at q';cases q'
   obtain⟨v,hv⟩:=heo
   exact⟨v,by rw [hbe];exact hv⟩
  ·refine (ok b u q).stay (λc v hc r=>k c v ?_ r) (λc r=>by rw [ax (nown c b r)];exact r) (λc xs r=>by rw [ax (ntup c xs r)];exact r) λc ob u _ r _=>by rw [ax (λz=>by subst z;rw [r] at mu;exact mu)];exact r
   rcases hc with rfl|hc
   ·exact hbe
   ·rintro rfl
    rcases he with z|z
    ·exact nown c b hc z
    ·rw [hc] at z;cases z;exact hb rfl
end
structure Un (fs ex:List Addr) (H H':Hp) (h h':Heap):Prop where
 keep:∀b o,h.get? b=some o->H b=none->b∉fs->b∉ex->h'.get? b=some o
 slot:∀b o,h.get? b=some o->H b=none->b∈fs->b∉ex->∃sl,h'.get? b=some { o with slots:=sl }
 free:∀b o,h.get? b=some o->H b=none->b∉ex->H' b=none
 there:∀b o,h.get? b=some o->b∉ex->∃o',h'.get? b=some o'
 tups:∀b xs,H b=some (.tup xs)->H' b=some (.tup xs)
 frzs:∀b o u,H b=some (.frz o u)->H' b=some (.frz o u)
 tbls:∀b ps,H b=some (.tbl ps)->∃more,H' b=some (.tbl (ps++more))
section
variable {fs fs' ex ex':List Addr}{H H1 H2:Hp}{h h1 h2 h':Heap}{a x e:Addr}{o:HO}
theorem Un.any (u:Un fs ex H H1 h h1) {b:Addr}{ob:Obj}(q:h.get? b=some ob) (n:H b=none) (hx:b∉ex):∃sl,h1.get? b=some { ob with slots:=sl }:=by
 by_cases hb:b∈fs
 ·exact u.slot b ob q n hb hx
 ·exact⟨ob.slots,u.keep b ob q n hb hx⟩
theorem Un.kept (k:∀b u,h.get? b=some u->h'.get? b=some u):Un fs ex H H h h':=
 ⟨λb ob q _ _ _=>k b ob q,λb ob q _ _ _=>⟨ob.slots,k b ob q⟩,λ_ _ _ n _=>n,λb ob q _=>⟨ob,k b ob q⟩,λ_ _ q=>q,λ_ _ _ q=>q,λ_ ps q=>⟨#[],by rw [q];simp⟩⟩
theorem Un.refl:Un fs ex H H h h:=Un.kept λ_ _ q=>q
theorem Un.laid (k:∀b u,h.get? b=some u->h'.get? b=some u) (hp:h.objs.size<=a) (hn:H a=none):Un fs ex H (av H a o) h h' where
 keep:=λb u q _ _ _=>k b u q
 slot:=λb u q _ _ _=>⟨u.slots,k b u q⟩
 free:=λb u q n _=>by rw [ax (bK (bG (Qi q) hp))];exact n
 there:=λb u q _=>⟨u,k b u q⟩
 tups:=λb xs q=>by rw [ax (cf q hn)];exact q
 frzs:=λb u xs q=>by rw [ax (cf q hn)];exact q
 tbls:=λb ps q=>⟨#[],by rw [ax (cf q hn),q];simp⟩
theorem Un.write (mu:qw (H x)) (he:e=x∨H e=some (.own x)) (k:∀b u,b≠e->h.get? b=some u->h'.get? b=some u) (heo:∃u,h'.get? e=some u):Un fs ex H (av H x o) h h':=by
 have hx:∀b,H b=none->b≠x:=λb n z=>by subst z;rw [n] at mu;exact mu
 have hb:∀b,H b=none->b≠e:=λb n z=>by
  subst z
  rcases he with r|r
  ·exact hx b n r
  ·rw [n] at r;cases r
 have hm:∀b u,H b=some u->¬qw (some u)->b≠x:=λb u q nm z=>by subst z;rw [q] at mu;exact nm mu
 refine⟨λb u q n _ _=>k b u (hb b n) q,λb u q n _ _=>⟨u.slots,k b u (hb b n) q⟩,λb u q n _=>by rw [ax (hx b n)];exact n,λb u q _=>?_,
  λb xs q=>by rw [ax (hm b _ q λz=>z)];exact q,λb u xs q=>by rw [ax (hm b _ q λz=>z)];exact q,λb ps q=>⟨#[],by rw [ax (hm b _ q λz=>z),q];simp⟩⟩
 by_cases hbe:b=e
 ·subst hbe;exact heo
 ·exact⟨u,k b u hbe q⟩
end
noncomputable def nW (h:Heap) (H:Hp):List Addr:=(List.range h.objs.size).filter λa=>(H a).isSome
def iY (h:Heap) (H:Hp):Heap:=PySem.W.hideAll h (nW h H)
theorem qIm (h:Heap) (H:Hp):(iY h H).objs.size=h.objs.size:=PySem.W.hideAll_size _ _
theorem zm {h:Heap}{H:Hp}{b:Addr}{o:Obj}(e:h.get? b=some o) (n:H b=none):(iY h H).get? b=some o:=
 PySem.W.hideAll_get _ e λhm=>by
  have q:(H b).isSome=true:=(ybQ.mp hm).2
  rw [n] at q;simp at q
theorem qNG {h:Heap}{H:Hp}{b:Addr}{o:Obj}(e:(iY h H).get? b=some o):h.get? b=some o/\H b=none:=by
 have e':h.get? b=some o:=PySem.W.of_hideAll (nW h H) e
 refine⟨e',?_⟩
 cases q:H b with
 | none=>rfl
 | some x =>
  have hm:b∈nW h H:=ybQ.mpr ⟨List.mem_range.mpr (Qi e'),by simp [q]⟩
  have z:(iY h H).get? b=none:=PySem.W.hideAll_none (nW h H) hm
  rw [z] at e;cases e
noncomputable def qOo (g h:Heap) (L:Addr):List (Addr×Obj):=(List.range h.objs.size).filterMap λa=>if a=L∨(g.get? a).isSome=true then none else (h.get? a).map λo=>(a,o)
def rest (g h:Heap) (L d:Addr):List (Addr×Obj):=(qOo g h L).filter λp=>decide (p.1≠d)
end L2
namespace L2
open PySem PySem.Spec PyProof.Rows
structure Mod (K:Qb) (mg:Str->Option Value) (base:Heap):Prop where
 kin:K.In base
 glob:base.Ns mainGlobals mg
 blt:∃mb,base.Ns builtinsNs mb/\∀x:Str,x≠"__name__"->mb x=Qo x
 nolimit:base.NoLimit
structure Cx where
 prog:Program
 w:World
 K:Qb
 mg:Str->Option Value
 base:Heap
 A:Around
 N:List Str
 s₀:Shared
 H₀:Hp
 env:Env
 outer:List Env
 stack:List Env
 ex:List Addr
 fn:Str->Bool
 calm:Bool
 pn:List (Addr×Obj)
 xe:Value->Shared->Prop
noncomputable def eT (l:List Env):List Addr:=l.filterMap (·.frame)
abbrev Cx.fs (X:Cx):List Addr:=eT X.outer
def jh (sc:Scope) (x:Str):Prop:=sc.names.lookup x=some .local∨sc.names.lookup x=some .cell∨sc.names.lookup x=some .free
def lP (sc:Scope) (x:Str):Prop:=sc.names.lookup x=some .local∨sc.names.lookup x=some .cell
def qTO (env:Env) (h:Heap) (m:Str->Option Value) (x:Str) (u:Value):Prop:=
 (env.kindOf x=some .local/\m x=some u)∨((env.kindOf x=some .cell∨env.kindOf x=some .free)/\∃c,env.cells.lookup x=some c/\h.IsCell c (some u))
structure Cx.Ok (X:Cx):Prop where
 mod:Mod X.K X.mg X.base
 kind:X.env.scope.kind=.function
 glob:X.env.globals=mainGlobals
 blt:X.env.builtins=builtinsNs
 above:X.s₀.heap.objs.size<=X.env.locals
 inj:∀x y c,X.env.cells.lookup x=some c->X.env.cells.lookup y=some c->x=y
 has:∀x,(X.env.kindOf x=some .cell∨X.env.kindOf x=some .free)->∃c,X.env.cells.lookup x=some c
 cab:∀x c,X.fn x=true->X.env.cells.lookup x=some c->X.s₀.heap.objs.size<=c
 hd:X.calm=true->X.A.handled=none
 frames:X.A.frames=some X.stack
 stk:X.stack=X.outer∨(X.stack=X.env::X.outer/\X.env.frame=some X.env.locals)
 exf:∀b∈X.ex,b≠X.env.locals/\∀x c,X.env.cells.lookup x=some c->c≠b
 bs:∀b o,X.base.get? b=some o->X.s₀.heap.get? b=some o/\X.H₀ b=none
 bsz:X.base.objs.size<=X.s₀.heap.objs.size
 noex:∀b o,X.base.get? b=some o->b∉X.ex
 exfs:∀b∈X.ex,b∉X.fs
 funs:X.s₀.heap.FunFrames X.base X.outer
 frf:∀b∈X.fs,X.H₀ b=none
structure Inv (X:Cx) (pins:List (Addr×Obj)) (Z:List (Option V)) (H:Hp) (s:Shared):Prop where
 ok:X.Ok
 os:s.os=X.s₀.os
 bare:AllBare s.gens
 base:Un X.fs X.ex X.H₀ H X.s₀.heap s.heap
 loc:∃m,s.heap.Ns X.env.locals m/\∀(i:Nat) (x:Str) (v:V),X.N[i]?=some x->Z[i]?=some (some v)->jh X.env.scope x->∃u,RelV v u/\qTO X.env s.heap m x u
 cell:∀x c,X.env.cells.lookup x=some c->∃v,s.heap.IsCell c v
 free:H X.env.locals=none
 freeC:∀x c,X.env.cells.lookup x=some c->H c=none
 pin:∀p∈X.pn++pins,s.heap.get? p.1=some p.2/\H p.1=none/\p.1≠X.env.locals/\p.1∉X.fs/\∀v,p.2.data≠.cell v
 hok:HOk X.prog X.w H s.heap
 len:Z.length=X.N.length
section
variable {X:Cx}{pins:List (Addr×Obj)}{Z:List (Option V)}{H H':Hp}{s:Shared}{h':Heap}
theorem Cx.Ok.nofr (ok:X.Ok) {b:Addr}{o:Obj}(e:X.base.get? b=some o):b∉X.fs:=λhb=>by
 have:=(ok.funs.mem hb).1
 rw [e] at this;cases this
theorem Inv.bs (I:Inv X pins Z H s):∀b o,X.base.get? b=some o->s.heap.get? b=some o/\H b=none:=λb o e =>
 ⟨I.base.keep b o (I.ok.bs b o e).1 (I.ok.bs b o e).2 (I.ok.nofr e) (I.ok.noex b o e),I.base.free b o (I.ok.bs b o e).1 (I.ok.bs b o e).2 (I.ok.noex b o e)⟩
theorem Inv.bk (I:Inv X pins Z H s):∀b o,X.base.get? b=some o->s.heap.get? b=some o:=λb o e=>(I.bs b o e).1
theorem Inv.mod (I:Inv X pins Z H s):Mod X.K X.mg X.base:=I.ok.mod
theorem Inv.kIn (I:Inv X pins Z H s):X.K.In s.heap:=I.ok.mod.kin.keeps I.bk
theorem Inv.lt (I:Inv X pins Z H s):X.env.locals<s.heap.objs.size:=let ⟨_,hn,_⟩:=I.loc;hn.lt
theorem Inv.sz (I:Inv X pins Z H s):X.s₀.heap.objs.size<=s.heap.objs.size:=aM I.ok.above (fb I.lt)
theorem Inv.nofs (I:Inv X pins Z H s) {a:Addr}(h:s.heap.objs.size<=a):a∉X.fs:=λhb=>by
 obtain⟨_,o,ho,_⟩:=I.ok.funs.mem hb
 exact Qn (bG (Qi ho) (aM I.sz h)) (fA _)
theorem Inv.cne (I:Inv X pins Z H s):∀x c,X.env.cells.lookup x=some c->c≠X.env.locals:=λx c e z=>by
 obtain⟨v,o,ho,hd⟩:=I.cell x c e
 obtain⟨m,⟨o',es,ep,ho',hd',_⟩,_⟩:=I.loc
 rw [z,ho'] at ho;cases ho;rw [hd'] at hd;cases hd
theorem Inv.funs (I:Inv X pins Z H s):s.heap.FunFrames X.base X.outer:=by
 have all:∀(l:List Env),(∀b∈eT l,b∈X.fs)->X.s₀.heap.FunFrames X.base l->s.heap.FunFrames X.base l:=by
  intro l
  induction l with
  | nil=>intro _ _;trivial
  | cons env r ih =>
   intro hs hl
   obtain⟨hk,⟨L,o,hf,hn,ho,hd⟩,hr⟩:=hl
   have hL:L∈X.fs:=hs L (by unfold eT;rw [nR,hf];exact bh)
   obtain⟨sl,e⟩:=I.base.slot L o ho (I.ok.frf L hL) hL λz=>I.ok.exfs L z hL
   exact⟨hk,⟨L,_,hf,hn,e,hd⟩,ih (λb hb=>hs b (by unfold eT;rw [nR,hf];exact bC _ hb)) hr⟩
 exact all X.outer (λ_ hb=>hb) I.ok.funs
theorem Inv.stack (I:Inv X pins Z H s):s.heap.FunFrames X.base X.stack:=by
 rcases I.ok.stk with e|⟨e,hf⟩
 ·rw [e];exact I.funs
 ·rw [e]
  obtain⟨m,hn,_⟩:=I.loc
  refine .cons (by rw [I.ok.kind];decide) hf hn ?_ I.funs
  exact Heap.get?_none_of_le (aM I.ok.bsz I.ok.above)
theorem Inv.stkSub (I:Inv X pins Z H s):∀b∈eT X.stack,b∈X.env.locals::X.fs:=λb hb=>by
 rcases I.ok.stk with e|⟨e,hf⟩
 ·rw [e] at hb;exact bC _ hb
 ·rw [e] at hb
  unfold eT at hb
  rw [nR,hf] at hb
  exact hb
theorem Inv.stkFree (I:Inv X pins Z H s):∀b∈eT X.stack,H b=none:=λb hb=>by
 rcases yag.mp (I.stkSub b hb) with e|hb
 ·rw [e];exact I.free
 ·obtain⟨_,o,ho,_⟩:=I.ok.funs.mem hb
  exact I.base.free b o ho (I.ok.frf b hb) λz=>I.ok.exfs b z hb
theorem Inv.step {g':Array GenState}{t':Nat}{d':Drawn}{ch:List Addr}(I:Inv X pins Z H s)
  (hch:∀b∈ch,(b∈X.ex∨X.s₀.heap.objs.size<=b)/\b≠X.env.locals/\(∀x c,X.env.cells.lookup x=some c->c≠b)/\∀p∈X.pn++pins,p.1≠b)
  (keep:∀b o,b≠X.env.locals->b∉X.fs->b∉ch->s.heap.get? b=some o->H b=none->h'.get? b=some o)
  (slot:∀b o,b≠X.env.locals->b∈X.fs->b∉ch->s.heap.get? b=some o->H b=none->∃sl,h'.get? b=some { o with slots:=sl }) (free:∀b o,b∉ch->s.heap.get? b=some o->H b=none->H' b=none)
  (there:∀b o,b∉ch->s.heap.get? b=some o->∃o',h'.get? b=some o')
  (tups:∀b xs,H b=some (.tup xs)->H' b=some (.tup xs)) (frzs:∀b o u,H b=some (.frz o u)->H' b=some (.frz o u)) (tbls:∀b ps,H b=some (.tbl ps)->∃more,H' b=some (.tbl (ps++more)))
  (ns:∀m,s.heap.Ns X.env.locals m->h'.Ns X.env.locals m) (hok:HOk X.prog X.w H' h') (hg:AllBare g') :
  Inv X pins Z H' { s with heap:=h',gens:=g',drawn:=d',toks:=t' }:=by
 have neL:∀b o,X.s₀.heap.get? b=some o->b≠X.env.locals:=λb o e=>bK (bG (Qi e) I.ok.above)
 have neC:∀b o,X.s₀.heap.get? b=some o->b∉X.ex->b∉ch:=λb o e hx hb=>by
  rcases (hch b hb).1 with z|z
  ·exact hx z
  ·exact Qn (bG (Qi e) z) (fA _)
 have cellK:∀x c,X.env.cells.lookup x=some c->∀v,s.heap.IsCell c v->h'.IsCell c v:=λx c e v ⟨o,ho,hd⟩=>by
  have nch:c∉ch:=λz=>(hch c z).2.2.1 x c e rfl
  by_cases hc:c∈X.fs
  ·obtain⟨sl,q⟩:=slot c o (I.cne x c e) hc nch ho (I.freeC x c e)
   exact⟨_,q,hd⟩
  ·exact⟨o,keep c o (I.cne x c e) hc nch ho (I.freeC x c e),hd⟩
 refine⟨I.ok,I.os,hg,⟨λb o e n hb hx=>?_,λb o e n hb hx=>?_,λb o e n hx=>?_,λb o e hx=>?_,λb xs e=>tups b xs (I.base.tups b xs e),λb o xs e=>frzs b o xs (I.base.frzs b o xs e),λb ps e=>?_⟩,?_,λx c e=>?_,?_,λx c e=>?_,λp hp=>?_,hok,I.len⟩
 ·exact keep b o (neL b o e) hb (neC b o e hx) (I.base.keep b o e n hb hx) (I.base.free b o e n hx)
 ·obtain⟨sl,e1⟩:=I.base.slot b o e n hb hx
  obtain⟨sl',e2⟩:=slot b _ (neL b o e) hb (neC b o e hx) e1 (I.base.free b o e n hx)
  exact⟨sl',e2⟩
 ·obtain⟨o',e1⟩:=I.base.there b o e hx
  exact free b o' (neC b o e hx) e1 (I.base.free b o e n hx)
 ·obtain⟨o',e1⟩:=I.base.there b o e hx
  exact there b o' (neC b o e hx) e1
 ·obtain⟨m1,e1⟩:=I.base.tbls b ps e
  obtain⟨m2,e2⟩:=tbls b _ e1
  exact⟨m1++m2,by rw [e2,Array.append_assoc]⟩
 ·obtain⟨m,hn,hl⟩:=I.loc
  refine⟨m,ns m hn,λi x v e1 e2 e3=>?_⟩
  obtain⟨u,r,l⟩:=hl i x v e1 e2 e3
  refine⟨u,r,?_⟩
  rcases l with l|⟨k,c,e,z⟩
  ·exact .inl l
  ·exact .inr ⟨k,c,e,cellK x c e _ z⟩
 ·obtain⟨v,z⟩:=I.cell x c e
  exact⟨v,cellK x c e v z⟩
 ·obtain⟨m,⟨o,_,_,ho,_⟩,_⟩:=I.loc
  exact free _ o (λz=>(hch _ z).2.1 rfl) ho I.free
 ·obtain⟨v,o,ho,hd⟩:=I.cell x c e
  exact free c o (λz=>(hch c z).2.2.1 x c e rfl) ho (I.freeC x c e)
 ·obtain⟨e,n,ne,nf,d⟩:=I.pin p hp
  have nch:p.1∉ch:=λz=>(hch p.1 z).2.2.2 p hp rfl
  exact⟨keep p.1 p.2 ne nf nch e n,free p.1 p.2 nch e n,ne,nf,d⟩
theorem Inv.un {t':Nat}(I:Inv X pins Z H s) (u:Un X.fs [] H H' s.heap h') (hok:HOk X.prog X.w H' h'):Inv X pins Z H' { s with heap:=h',toks:=t' }:=by
 obtain⟨m,⟨o,es,ep,ho,r⟩,_⟩:=id I.loc
 obtain⟨sl,hL⟩:=u.any ho I.free (by simp)
 exact I.step (g':=s.gens) (d':=s.drawn) (ch:=[]) (λ_ z=>nomatch z) (λb o _ hb _ e n=>u.keep b o e n hb (by simp)) (λb o _ hb _ e n=>u.slot b o e n hb (by simp)) (λb o _ e n=>u.free b o e n (by simp)) (λb o _ e=>u.there b o e (by simp)) u.tups u.frzs u.tbls (λm' hm=>by
  obtain⟨o',es',ep',ho',r'⟩:=hm
  rw [ho] at ho';cases ho'
  exact⟨_,es',ep',hL,r'⟩) hok I.bare
theorem Inv.call {g':Array GenState}{t':Nat}{d':Drawn}{ch:List Addr}(I:Inv X pins Z H s) (u:Un (eT X.stack) ch H H' s.heap h') (hok:HOk X.prog X.w H' h') (hg:AllBare g')
  (hch:∀b∈ch,(b∈X.ex∨X.s₀.heap.objs.size<=b)/\b≠X.env.locals/\(∀x c,X.env.cells.lookup x=some c->c≠b)/\∀p∈X.pn++pins,p.1≠b) :
  Inv X pins Z H' { s with heap:=h',gens:=g',drawn:=d',toks:=t' }:=by
 obtain⟨m,⟨o,es,ep,ho,r⟩,_⟩:=id I.loc
 obtain⟨sl,hL⟩:=u.any ho I.free λz=>(hch _ z).2.1 rfl
 exact I.step (ch:=ch) hch (λb o hL hb hc e n=>u.keep b o e n (λz=>(yag.mp (I.stkSub b z)).elim hL hb) hc) (λb o _ _ hc e n=>u.any e n hc) (λb o hc e n=>u.free b o e n hc) (λb o hc e=>u.there b o e hc) u.tups u.frzs u.tbls (λm' hm=>by
  obtain⟨o',es',ep',ho',r'⟩:=hm
  rw [ho] at ho';cases ho'
  exact⟨_,es',ep',hL,r'⟩) hok hg
theorem Inv.turned {t':Nat}{it:Addr}(I:Inv X pins Z H s) (k:∀b o,b≠it->s.heap.get? b=some o->h'.get? b=some o) (hn:H it=none) (hL:it≠X.env.locals)
  (h1:it∈X.ex∨X.s₀.heap.objs.size<=it) (h2:∀x c,X.env.cells.lookup x=some c->c≠it) (h3:∀p∈X.pn++pins,p.1≠it):Inv X pins Z H { s with heap:=h',toks:=t' }:=by
 have nit:∀b u,H b=some u->b≠it:=λb u e z=>by rw [z,hn] at e;cases e
 refine I.step (g':=s.gens) (d':=s.drawn) (ch:=[it]) (λb hb=>?_) (λb o _ _ hc e _=>k b o (λz=>hc (by simp [z])) e) (λb o _ _ hc e _=>⟨o.slots,k b o (λz=>hc (by simp [z])) e⟩) (λ_ _ _ _ n=>n)
  (λb o hc e=>⟨o,k b o (λz=>hc (by simp [z])) e⟩) (λ_ _ e=>e) (λ_ _ _ e=>e) (λb ps e=>⟨#[],by rw [e];simp⟩) (λm hm=>?_) (λb u e=>?_) I.bare
 ·have e:b=it:=by simpa using hb
  subst e
  exact⟨h1,hL,h2,h3⟩
 ·obtain⟨o,es,ep,ho,r⟩:=hm
  exact⟨o,es,ep,k _ o (Ne.symm hL) ho,r⟩
 ·refine (I.hok b u e).stay (λc v hc q=>k c v ?_ q) (λ_ q=>q) (λ_ _ q=>q) λ_ _ _ _ q _=>q
  rcases hc with z|z
  ·rw [z];exact nit b u e
  ·exact nit c _ z
theorem Inv.tok (I:Inv X pins Z H s) (t:Nat):Inv X pins Z H { s with toks:=t }:=I.un (h':=s.heap) (t':=t) Un.refl I.hok
theorem Inv.kept {t':Nat}(I:Inv X pins Z H s) (k:∀b u,s.heap.get? b=some u->h'.get? b=some u):Inv X pins Z H { s with heap:=h',toks:=t' }:=I.un (Un.kept k) (I.hok.kept k)
theorem Inv.laid {a:Addr}{o:HO}{t':Nat}(I:Inv X pins Z H s) (k:∀b u,s.heap.get? b=some u->h'.get? b=some u) (hp:s.heap.objs.size<=a) (new:ObjOk X.prog X.w (av H a o) h' a o) :
  Inv X pins Z (av H a o) { s with heap:=h',toks:=t' }:=I.un (Un.laid k hp (I.hok.fresh hp)) (I.hok.laid k hp new)
theorem Inv.write {x e:Addr}{o:HO}{t':Nat}(I:Inv X pins Z H s) (mu:qw (H x)) (he:e=x∨H e=some (.own x)) (k:∀b u,b≠e->s.heap.get? b=some u->h'.get? b=some u) (heo:∃u,h'.get? e=some u)
  (new:ObjOk X.prog X.w (av H x o) h' x o):Inv X pins Z (av H x o) { s with heap:=h',toks:=t' }:=I.un (Un.write mu he k heo) (I.hok.write mu he k heo new)
theorem Inv.pins_of {pins':List (Addr×Obj)}(I:Inv X pins Z H s) (h:∀p∈pins',s.heap.get? p.1=some p.2/\H p.1=none/\p.1≠X.env.locals/\p.1∉X.fs/\∀v,p.2.data≠.cell v):Inv X pins' Z H s:=
 ⟨I.ok,I.os,I.bare,I.base,I.loc,I.cell,I.free,I.freeC,λp hp=>(yaA.mp hp).elim (λz=>I.pin p (iH _ z)) (h p),I.hok,I.len⟩
theorem tW {N:List Str}(hN:N.Nodup) {i j:Nat}{x:Str}(a:N[i]?=some x) (b:N[j]?=some x):i=j:=by
 obtain⟨h1,e1⟩:=yao.mp a
 obtain⟨h2,e2⟩:=yao.mp b
 exact (List.getElem_inj hN).mp (e1.trans e2.symm)
theorem Ag {M:Model}{A:Around}{E:Value->Shared->Prop}{i:Nat}{x:Str}{v:V}{u:Value}{Q:Unit->Shared->Prop}(I:Inv X pins Z H s) (hN:X.N.Nodup) (hi:X.N[i]?=some x) (hx:lP X.env.scope x) (r:RelV v u)
  (h:∀s',Inv X pins (Z.set i (some v)) H s'->(∃a,Heap.SameBut a s.heap s'.heap/\(a=X.env.locals∨X.env.cells.lookup x=some a))->Q () s') (hf:X.fn x=true∨X.env.scope.names.lookup x=some .local:=by first|exact .inl rfl|exact .inr rfl|assumption):wpAny M A (storeName X.env x u) Q E s:=by
 obtain⟨m,hn,hl⟩:=id I.loc
 have hcls:(X.env.scope.kind == .class||(X.env.scope.kind == .module&&X.env.locals != X.env.globals))=false:=by rw [I.ok.kind];rfl
 have hiZ:i<Z.length:=by rw [I.len];exact (yao.mp hi).1
 have cne:=I.cne
 have tracked:∀{a:Addr} {h':Heap},(∃o,s.heap.get? a=some o/\H a=none)->Heap.SameBut a s.heap h'->HOk X.prog X.w H h':=λ{a h'} ha hs b ob e=>by
  obtain⟨_,_,hfree⟩:=ha
  refine (I.hok b ob e).stay (λc w' hc q=>(hs.2 c ?_).trans q) (λ_ q=>q) (λ_ _ q=>q) λ_ _ _ _ q _=>q
  rintro rfl
  rcases hc with rfl|hc
  ·rw [hfree] at e;cases e
  ·rw [hfree] at hc;cases hc
 rcases hx with hk|hk
 ·refine wpAny_storeName_local hk hn (λh' hn' hs=>?_) hcls
  obtain⟨oL,_,_,hoL,_⟩:=id hn
  refine h _ ⟨I.ok,I.os,I.bare,⟨λb o e n hb hx=>?_,λb o e n hb hx=>?_,I.base.free,λb o e hx=>?_,I.base.tups,I.base.frzs,I.base.tbls⟩,⟨_,hn',λj y v' e1 e2 e3=>?_⟩,λy c e=>?_,I.free,I.freeC,λp hp=>?_,tracked ⟨oL,hoL,I.free⟩ hs,by simpa using I.len⟩ ⟨_,hs,.inl rfl⟩
  ·exact (hs.2 b (bK (bG (Qi e) I.ok.above))).trans (I.base.keep b o e n hb hx)
  ·obtain⟨sl,e1⟩:=I.base.slot b o e n hb hx
   exact⟨sl,(hs.2 b (bK (bG (Qi e) I.ok.above))).trans e1⟩
  ·obtain⟨o',e1⟩:=I.base.there b o e hx
   exact⟨o',(hs.2 b (bK (bG (Qi e) I.ok.above))).trans e1⟩
  ·by_cases hj:j=i
   ·subst hj
    rw [hi] at e1;cases e1
    rw [kz hiZ] at e2
    cases e2
    exact⟨u,r,.inl ⟨hk,by simp⟩⟩
   ·rw [bS (Ne.symm hj)] at e2
    obtain⟨u',r',q⟩:=hl j y v' e1 e2 e3
    refine⟨u',r',?_⟩
    rcases q with ⟨k,e⟩|⟨k,c,e,z⟩
    ·refine .inl ⟨k,?_⟩
     have:y≠x:=λe=>hj (tW hN e1 (e▸hi))
     simp [this,e]
    ·exact .inr ⟨k,c,e,z.sameBut hs (cne y c e)⟩
  ·obtain⟨w',z⟩:=I.cell y c e
   exact⟨w',z.sameBut hs (cne y c e)⟩
  ·obtain⟨e,n,ne,nf,d⟩:=I.pin p hp
   exact⟨(hs.2 p.1 ne).trans e,n,ne,nf,d⟩
 ·have hfn:X.fn x=true:=by
   rcases hf with z|z
   ·exact z
   ·rw [z] at hk;cases hk
  obtain⟨c,hc⟩:=I.ok.has x (.inl hk)
  obtain⟨w',z⟩:=I.cell x c hc
  refine wpAny_storeName_cell I.ok.kind hk hc z (λh' hc' hs=>?_)
  obtain⟨oc,hoc,hocd⟩:=id z
  refine h { s with heap:=h' } ⟨I.ok,I.os,I.bare,⟨λb o e n hb hx=>?_,λb o e n hb hx=>?_,I.base.free,λb o e hx=>?_,I.base.tups,I.base.frzs,I.base.tbls⟩,⟨m,hn.sameBut hs (Ne.symm (cne x c hc)),λj y v' e1 e2 e3=>?_⟩,λy c' e=>?_,I.free,I.freeC,λp hp=>?_,tracked ⟨oc,hoc,I.freeC x c hc⟩ hs,by simpa using I.len⟩ ⟨c,hs,.inr hc⟩
  ·exact (hs.2 b (bK (bG (Qi e) (I.ok.cab x c hfn hc)))).trans (I.base.keep b o e n hb hx)
  ·obtain⟨sl,e1⟩:=I.base.slot b o e n hb hx
   exact⟨sl,(hs.2 b (bK (bG (Qi e) (I.ok.cab x c hfn hc)))).trans e1⟩
  ·obtain⟨o',e1⟩:=I.base.there b o e hx
   exact⟨o',(hs.2 b (bK (bG (Qi e) (I.ok.cab x c hfn hc)))).trans e1⟩
  ·by_cases hj:j=i
   ·subst hj
    rw [hi] at e1;cases e1
    rw [kz hiZ] at e2
    cases e2
    exact⟨u,r,.inr ⟨.inl hk,c,hc,hc'⟩⟩
   ·rw [bS (Ne.symm hj)] at e2
    obtain⟨u',r',q⟩:=hl j y v' e1 e2 e3
    refine⟨u',r',?_⟩
    rcases q with q|⟨k,c',e,z'⟩
    ·exact .inl q
    ·refine .inr ⟨k,c',e,z'.sameBut hs ?_⟩
     rintro rfl
     exact hj (tW hN e1 (I.ok.inj _ _ _ e hc▸hi))
  ·by_cases hcc:c'=c
   ·subst hcc;exact⟨_,hc'⟩
   ·obtain⟨w2,z2⟩:=I.cell y c' e
    exact⟨w2,z2.sameBut hs hcc⟩
  ·obtain⟨e,n,ne,nf,d⟩:=I.pin p hp
   refine⟨(hs.2 p.1 ?_).trans e,n,ne,nf,d⟩
   intro q
   rw [q,hoc] at e
   have q':oc=p.2:=fX e
   exact d w' (by rw [<-q'];exact hocd)
theorem zz {M:Model}{A:Around}{E:Value->Shared->Prop}{i:Nat}{x:Str}{v:V}{u:Value}{Q:Unit->Shared->Prop}(I:Inv X pins Z H s) (hN:X.N.Nodup) (hi:X.N[i]?=some x) (hx:lP X.env.scope x) (r:RelV v u)
  (h:∀s',Inv X pins (Z.set i (some v)) H s'->Q () s') (hf:X.fn x=true∨X.env.scope.names.lookup x=some .local:=by first|exact .inl rfl|exact .inr rfl|assumption):wpAny M A (storeName X.env x u) Q E s:=
 Ag I hN hi hx r (λs' I' _=>h s' I') hf
theorem Inv.call' {s':Shared}{ch:List Addr}(I:Inv X pins Z H s) (ho:s'.os=s.os) (u:Un (eT X.stack) ch H H' s.heap s'.heap) (hok:HOk X.prog X.w H' s'.heap) (hg:AllBare s'.gens)
  (hch:∀b∈ch,(b∈X.ex∨X.s₀.heap.objs.size<=b)/\b≠X.env.locals/\(∀x c,X.env.cells.lookup x=some c->c≠b)/\∀p∈X.pn++pins,p.1≠b):Inv X pins Z H' s':=by
 obtain⟨h',g',d',t',o'⟩:=s'
 have e:o'=s.os:=ho
 subst e
 exact I.call (g':=g') (t':=t') (d':=d') u hok hg hch
end
abbrev XK:=Value->Option Addr->Hp->Prop
abbrev St:=List (Option V)
abbrev VK:=V->Hp->Prop
abbrev TE:=St->Hp->VK->Prop
abbrev TT:=St->Hp->(Bool->Hp->Prop)->Prop
abbrev TA:=St->Hp->(List V->Hp->Prop)->Prop
structure Ends where
 nx:St->Hp->Prop
 rt:VK
 bk:St->Hp->Prop:=λ_ _=>False
 ct:St->Hp->Prop:=λ_ _=>False
abbrev TS:=Ends->St->Hp->Prop
def EP (X:Cx) (pins:List (Addr×Obj)) (Z:St) (Q:VK) (u:Value) (s':Shared):Prop:=∃v H',Inv X pins Z H' s'/\RelV v u/\Q v H'
def TP (X:Cx) (pins:List (Addr×Obj)) (Z:St) (Q:Bool->Hp->Prop) (b:Bool) (s':Shared):Prop:=∃H',Inv X pins Z H' s'/\Q b H'
def AP (X:Cx) (pins:List (Addr×Obj)) (Z:St) (Q:List V->Hp->Prop) (us:List Value) (s':Shared):Prop:=∃vs H',Inv X pins Z H' s'/\Vals vs us/\Q vs H'
def SP (X:Cx) (pins:List (Addr×Obj)) (D:Ends) (f:Flow) (s':Shared):Prop:=
 match f with
 | .next=>∃Z' H',Inv X pins Z' H' s'/\D.nx Z' H'
 | .brk=>∃Z' H',Inv X pins Z' H' s'/\D.bk Z' H'
 | .cont=>∃Z' H',Inv X pins Z' H' s'/\D.ct Z' H'
 | .ret u=>∃v Z' H',Inv X pins Z' H' s'/\RelV v u/\D.rt v H'
def PE (X:Cx) (e:Expr) (t:TE):Prop:=
 ∀(pins:List (Addr×Obj)) (s:Shared) (Z:St) (H:Hp) (Q:VK),Inv X pins Z H s->t Z H Q->wpAny (model X.prog X.w) X.A (eval e X.env) (EP X pins Z Q) X.xe s
def PT (X:Cx) (e:Expr) (t:TT):Prop:=
 ∀(pins:List (Addr×Obj)) (s:Shared) (Z:St) (H:Hp) (Q:Bool->Hp->Prop),Inv X pins Z H s->t Z H Q->wpAny (model X.prog X.w) X.A (isTrue e X.env (eval e X.env)) (TP X pins Z Q) X.xe s
def PW (X:Cx) (e:Expr) (t:TT):Prop:=
 ∀(whole:Sem Value) (pins:List (Addr×Obj)) (s:Shared) (Z:St) (H:Hp) (Q:Bool->Hp->Prop),Inv X pins Z H s->t Z H Q->wpAny (model X.prog X.w) X.A (isTrue e X.env whole) (TP X pins Z Q) X.xe s
theorem PW.pt {X:Cx}{e:Expr}{t:TT}(h:PW X e t):PT X e t:=h _
def PA (X:Cx) (es:List Expr) (t:TA):Prop:=
 ∀(pos:Pos) (pins:List (Addr×Obj)) (s:Shared) (Z:St) (H:Hp) (Q:List V->Hp->Prop),Inv X pins Z H s->t Z H Q->wpAny (model X.prog X.w) X.A (spliced (backTo pos (starEach es X.env))) (AP X pins Z Q) X.xe s
def PS (X:Cx) (st:Stmt) (t:TS):Prop:=
 ∀(pins:List (Addr×Obj)) (s:Shared) (Z:St) (H:Hp) (D:Ends),Inv X pins Z H s->t D Z H->wpAny (model X.prog X.w) X.A (exec st X.env) (SP X pins D) X.xe s
def PSs (X:Cx) (st:List Stmt) (t:TS):Prop:=
 ∀(pins:List (Addr×Obj)) (s:Shared) (Z:St) (H:Hp) (D:Ends),Inv X pins Z H s->t D Z H->wpAny (model X.prog X.w) X.A (execs st X.env) (SP X pins D) X.xe s
theorem aw {α:Type}{t:Sem α}{Q Q':α->Shared->Prop}{M:Model}{A:Around}{E:Value->Shared->Prop}{s:Shared}(h:wpAny M A t Q E s) (hQ:∀a s,Q a s->Q' a s):wpAny M A t Q' E s:=Qe h hQ λ_ _ x=>x
end L2
namespace L2
open PySem PySem.Spec PyProof.Rows
section
variable {X:Cx}
theorem bin {a b:Expr}{ta tb:TE}(ha:PE X a ta) (hb:PE X b tb) {pins:List (Addr×Obj)}{s:Shared}{Z:St}{H:Hp}{R:V->V->Hp->Prop}(I:Inv X pins Z H s) (h:ta Z H λx H1=>tb Z H1 λy H2=>R x y H2)
  {α:Type} {Q:α->Shared->Prop} {f:Value->Value->Sem α}
  (hf:∀v u s2 x y H2,Inv X pins Z H2 s2->RelV x v->RelV y u->R x y H2->wpAny (model X.prog X.w) X.A (f v u) Q X.xe s2) :
  wpAny (model X.prog X.w) X.A (eval a X.env) (λv s₁=>wpAny (model X.prog X.w) X.A (eval b X.env) (λu s₂=>wpAny (model X.prog X.w) X.A (f v u) Q X.xe s₂) X.xe s₁) X.xe s:=by
 refine aw (ha pins s Z H _ I h) λv s1 ⟨x,H1,I1,r1,q1⟩=>?_
 refine aw (hb pins s1 Z H1 _ I1 q1) λu s2 ⟨y,H2,I2,r2,q2⟩=>?_
 exact hf v u s2 x y H2 I2 r1 r2 q2
noncomputable def mh (i:Nat):TE:=fun Z H Q=>∃v,Z[i]?=some (some v)/\Q v H
noncomputable def tC (v:V):TE:=λ_ H Q=>Q v H
theorem jb {i:Nat}{x:Str}{pos:Pos}(hN:X.N[i]?=some x) (hv:jh X.env.scope x) (hd:(x == ("__debug__":Str))=false:=by decide) (hcd:(x == ("__classdict__":Str))=false:=by decide):PE X (.Name x pos) (mh i):=by
 intro pins s Z H Q I h
 obtain⟨v,e,h⟩:=h
 obtain⟨m,hn,hl⟩:=I.loc
 obtain⟨u,r,l⟩:=hl i x v hN e hv
 have fin:EP X pins Z Q u s:=⟨v,H,I,r,h⟩
 rcases l with ⟨hk,hm⟩|⟨hk,c,hc,hcell⟩
 ·exact wpAny_Name (wpAny_loadName_local I.ok.kind hk hn hm fin) hd
 ·rcases hk with hk|hk
  ·exact wpAny_Name (wpAny_loadName_cell I.ok.kind hk hc hcell fin) hd
  ·exact wpAny_Name (wpAny_loadName_free I.ok.kind hk hc hcell fin hcd) hd
theorem qPO {i j pos}:PE X (.Constant (.int i) j pos) (tC (.int i)):=λ_ _ _ H _ I h=>wpAny_Constant_int ⟨.int i,H,I.tok _,⟨_,rfl⟩,h⟩
theorem qR3 {b j pos}:PE X (.Constant (.bool b) j pos) (tC (.bl b)):=λ_ _ _ H _ I h=>Constant_bool ⟨.bl b,H,I,rfl,h⟩
theorem qPL {j pos}:PE X (.Constant .none j pos) (tC .non):=λ_ _ _ H _ I h=>Constant_none ⟨.non,H,I,rfl,h⟩
theorem qPI {x j pos}:PE X (.Constant (.str x) j pos) (tC (.str x)):=λ_ _ _ H _ I h=>Calls.Constant_str ⟨.str x,H,I.tok _,⟨_,rfl⟩,h⟩
def Gl (X:Cx) (x:Str):Prop:=X.env.kindOf x=some .globalImplicit
theorem sR {E:Value->Shared->Prop}{pins:List (Addr×Obj)}{s:Shared}{Z:St}{H:Hp}{x:Str}{u:Value}{pos:Pos}{Q:Value->Shared->Prop}(I:Inv X pins Z H s) (hg:Gl X x) (hm:X.mg x=some u) (h:Q u s)
  (hd:(x == ("__debug__":Str))=false:=by decide):wpAny (model X.prog X.w) X.A (eval (.Name x pos) X.env) Q E s:=
 Calls.Name_function_global I.ok.kind hg (Calls.loadGlobal_global (by rw [I.ok.glob];exact I.mod.glob.keeps I.bk) hm h) hd
theorem ik {E:Value->Shared->Prop}{pins:List (Addr×Obj)}{s:Shared}{Z:St}{H:Hp}{x:Str}{u:Value}{pos:Pos}{Q:Value->Shared->Prop}(I:Inv X pins Z H s) (hg:Gl X x) (hm:X.mg x=none) (hv:Qo x=some u) (h:Q u s)
  (hn:x≠"__name__":=by decide) (hd:(x == ("__debug__":Str))=false:=by decide):wpAny (model X.prog X.w) X.A (eval (.Name x pos) X.env) Q E s:=by
 obtain⟨mb,h1,h2⟩:=I.mod.blt
 exact Calls.Name_function_global I.ok.kind hg (Calls.loadGlobal_builtin (by rw [I.ok.glob];exact I.mod.glob.keeps I.bk) hm (by rw [I.ok.blt];exact h1.keeps I.bk) ((h2 x hn).trans hv) h) hd
theorem qNr {x:Str}{v:V}{u:Value}{pos:Pos}(hg:Gl X x) (hm:X.mg x=some u) (r:RelV v u) (hd:(x == ("__debug__":Str))=false:=by decide):PE X (.Name x pos) (tC v):=
 λ_ _ _ H _ I h=>sR I hg hm ⟨v,H,I,r,h⟩ hd
theorem qNs {x:Str}{v:V}{u:Value}{pos:Pos}(hg:Gl X x) (hm:X.mg x=none) (hv:Qo x=some u) (r:RelV v u) (hn:x≠"__name__":=by decide) (hd:(x == ("__debug__":Str))=false:=by decide):PE X (.Name x pos) (tC v):=
 λ_ _ _ H _ I h=>ik I hg hm hv ⟨v,H,I,r,h⟩ hn hd
variable {a b:Expr}{ta tb:TE}{pos:Pos}
noncomputable def tB (t:TE):TT:=fun Z H Q=>t Z H λx H1=>∃c,x=.bl c/\Q c H1
theorem qPz {e:Expr}{t:TE}(h:PE X e t) (he:∀whole,isTrue e X.env whole=(do let v <-whole;standAt e.pos;holding [v] (truthy v)):=by intro _;rfl):PT X e (tB t):=by
 intro pins s Z H Q I hw
 refine isTrue_plain (aw (h pins s Z H _ I hw) λv s1 ⟨x,H1,I1,r1,q1⟩=>?_) (he _)
 obtain⟨d,rfl,q⟩:=q1
 cases r1
 exact wpAny_truthy_bool ⟨H1,I1,q⟩
variable {tA tB':TT}{rest:List Expr}
noncomputable def qTp (t u:TT):TT:=fun Z H Q=>t Z H λc H1=>if c=true then u Z H1 Q else Q false H1
noncomputable def tOr (t u:TT):TT:=fun Z H Q=>t Z H λc H1=>if c=true then Q true H1 else u Z H1 Q
noncomputable def qTk (t:TT):TT:=fun Z H Q=>t Z H λc H1=>Q (!c) H1
theorem qNm (ha:PT X a tA):PW X (.BoolOp .And [a] pos) tA:=by
 intro wh pins s Z H Q I h
 refine isTrue_and (aw (ha pins s Z H Q I h) λc s1 e=>?_)
 cases c with
 | true=>exact isTrue_and_nil e
 | false=>exact e
theorem qPw (ha:PT X a tA):PW X (.BoolOp .Or [a] pos) tA:=by
 intro wh pins s Z H Q I h
 refine isTrue_or (aw (ha pins s Z H Q I h) λc s1 e=>?_)
 cases c with
 | false=>exact isTrue_or_nil e
 | true=>exact e
theorem qPy (ha:PT X a tA) (hb:PW X (.BoolOp .And (b::rest) pos) tB'):PW X (.BoolOp .And (a::b::rest) pos) (qTp tA tB'):=by
 intro wh pins s Z H Q I h
 refine isTrue_and (aw (ha pins s Z H _ I h) λc s1 ⟨H1,I1,q1⟩=>?_)
 cases c with
 | true=>exact hb wh pins s1 Z H1 Q I1 q1
 | false=>exact⟨H1,I1,q1⟩
theorem qRW (ha:PT X a tA) (hb:PW X (.BoolOp .Or (b::rest) pos) tB'):PW X (.BoolOp .Or (a::b::rest) pos) (tOr tA tB'):=by
 intro wh pins s Z H Q I h
 refine isTrue_or (aw (ha pins s Z H _ I h) λc s1 ⟨H1,I1,q1⟩=>?_)
 cases c with
 | true=>exact⟨H1,I1,q1⟩
 | false=>exact hb wh pins s1 Z H1 Q I1 q1
theorem qPA (ha:PT X a tA):PT X (.UnaryOp .Not a pos) (qTk tA):=by
 intro pins s Z H Q I h
 exact isTrue_not (ha pins s Z H (λc H1=>Q (!c) H1) I h)
noncomputable def qRN (ta tb:TE):TE:=fun Z H Q=>ta Z H λx H1=>∃c,x=.bl c/\if c=true then tb Z H1 Q else Q (.bl false) H1
noncomputable def qTj (ta tb:TE):TE:=fun Z H Q=>ta Z H λx H1=>∃c,x=.bl c/\if c=true then Q (.bl true) H1 else tb Z H1 Q
noncomputable def qRJ (ta:TE):TE:=fun Z H Q=>ta Z H λx H1=>∃c,x=.bl c/\Q (.bl (!c)) H1
theorem qPJ {op}{t:TE}(h:PE X a t):PE X (.BoolOp op [a] pos) t:=λpins s Z H Q I hw=>BoolOp_one (h pins s Z H Q I hw)
theorem qPR (ha:PE X a ta) (hb:PE X (.BoolOp .And (b::rest) pos) tb):PE X (.BoolOp .And (a::b::rest) pos) (qRN ta tb):=by
 intro pins s Z H Q I h
 refine BoolOp_and (aw (ha pins s Z H _ I h) λv s1 ⟨x,H1,I1,r1,q1⟩=>?_)
 obtain⟨c,rfl,q1⟩:=q1
 cases r1
 refine wpAny_truthy_bool ?_
 cases c with
 | true=>exact hb pins s1 Z H1 Q I1 q1
 | false=>exact⟨.bl false,H1,I1,rfl,q1⟩
theorem qR0 (ha:PE X a ta) (hb:PE X (.BoolOp .Or (b::rest) pos) tb):PE X (.BoolOp .Or (a::b::rest) pos) (qTj ta tb):=by
 intro pins s Z H Q I h
 refine BoolOp_or (aw (ha pins s Z H _ I h) λv s1 ⟨x,H1,I1,r1,q1⟩=>?_)
 obtain⟨c,rfl,q1⟩:=q1
 cases r1
 refine wpAny_truthy_bool ?_
 cases c with
 | false=>exact hb pins s1 Z H1 Q I1 q1
 | true=>exact⟨.bl true,H1,I1,rfl,q1⟩
theorem qPK (ha:PE X a ta):PE X (.UnaryOp .Not a pos) (qRJ ta):=by
 intro pins s Z H Q I h
 refine UnaryOp_ (aw (ha pins s Z H _ I h) λv s1 ⟨x,H1,I1,r1,q1⟩=>?_)
 obtain⟨c,rfl,q1⟩:=q1
 cases r1
 exact not_of (wpAny_truthy_bool ⟨.bl (!c),H1,I1,rfl,q1⟩)
noncomputable def tIf (t:TT) (ta tb:TE):TE:=fun Z H Q=>t Z H λc H1=>if c=true then ta Z H1 Q else tb Z H1 Q
theorem qKe {c:Expr}(hc:PT X c tA) (ha:PE X a ta) (hb:PE X b tb):PE X (.IfExp c a b pos) (tIf tA ta tb):=by
 intro pins s Z H Q I h
 refine wpAny_IfExp (aw (hc pins s Z H _ I h) λd s1 ⟨H1,I1,q1⟩=>?_)
 cases d with
 | true=>exact ha pins s1 Z H1 Q I1 q1
 | false=>exact hb pins s1 Z H1 Q I1 q1
end
end L2
namespace L2
open PySem PySem.Spec PyProof.Rows
def SqL (K:Qb) (H:Hp) (a:Addr) (xs:List V):Prop:=
 Rd H a (.lst xs) ∨
  ∃(o:Obj) (its:Array Value) (n:Nat),K.lookup a=some o/\o.cls=.type "list"/\o.dict=none/\o.data=.seq its n/\its.size<=sizeLine/\Vals xs its.toList
def SqT (K:Qb) (H:Hp) (a:Addr) (xs:List V):Prop:=
 Rd H a (.tup xs) ∨
  ∃(o:Obj) (its:Array Value) (n:Nat),K.lookup a=some o/\o.cls=.type "tuple"/\o.data=.seq its n/\its.size<=sizeLine/\Vals xs its.toList
noncomputable def qTN:Value->Option V
 | .none=>some .non
 | .bool b=>some (.bl b)
 | .int i _=>some (.int i)
 | .str x _=>some (.str x)
 | .bytes b _=>some (.byt b)
 | .float b _=>some (.flt b)
 | .ref a=>some (.ref a)
 | .type n=>some (.ty n)
 | _=>none
theorem RelV.abs {x:V}{u:Value}(r:RelV x u):qTN u=some x:=by
 cases x with
 | non=>cases r;rfl
 | bl _=>cases r;rfl
 | int _=>obtain⟨t,rfl⟩:=r;rfl
 | str _=>obtain⟨t,rfl⟩:=r;rfl
 | byt _=>obtain⟨t,rfl⟩:=r;rfl
 | flt _=>obtain⟨t,rfl⟩:=r;rfl
 | ref _=>cases r;rfl
 | ty _=>cases r;rfl
theorem RelV.inj {x y:V}{u:Value}(r:RelV x u) (q:RelV y u):x=y:=fX (r.abs.symm.trans q.abs)
theorem Vals.inj:∀{xs ys:List V}{us:List Value},Vals xs us->Vals ys us->xs=ys
 | _,_,_,.nil,.nil=>rfl
 | _,_,_,.cons r t,.cons r' t'=>by rw [r.inj r',Vals.inj t t']
section
variable {X:Cx}{pins:List (Addr×Obj)}{Z:St}{H:Hp}{s:Shared}{a:Addr}{xs ys:List V}
theorem SqL.of {K:Qb}(h:H a=some (.lst xs)):SqL K H a xs:=.inl (.inl h)
theorem SqT.of {K:Qb}(h:H a=some (.tup xs)):SqT K H a xs:=.inl (.inl h)
theorem Inv.list (I:Inv X pins Z H s) (h:SqL X.K H a xs):∃its:List Value,Vals xs its/\PlainL s.heap a its.toArray/\xs.length<=sizeLine:=by
 rcases h with h|⟨o,its,n,hk,hc,hd,hs,hz,r⟩
 ·obtain⟨z,its,n,r,e⟩:=h.ok I.hok
  exact⟨its,r,⟨_,n,e,rfl,rfl,rfl⟩,z⟩
 ·refine⟨its.toList,r,⟨o,n,I.kIn a o hk,hc,hd,by simpa using hs⟩,?_⟩
  have e:=r.length
  simp only [cw] at e
  omega
theorem Inv.tuple (I:Inv X pins Z H s) (h:SqT X.K H a xs):∃its:List Value,Vals xs its/\IsTup s.heap a its.toArray/\xs.length<=sizeLine:=by
 rcases h with h|⟨o,its,n,hk,hc,hs,hz,r⟩
 ·obtain⟨z,its,r,p⟩:=h.ok I.hok
  exact⟨its,r,p,z⟩
 ·refine⟨its.toList,r,⟨o,I.kIn a o hk,hc,n,by simpa using hs⟩,?_⟩
  have e:=r.length
  simp only [cw] at e
  omega
theorem Inv.list_inj (I:Inv X pins Z H s) (h:SqL X.K H a xs) (h':SqL X.K H a ys):xs=ys:=by
 obtain⟨its,r,⟨o,n,e,_,_,d⟩,_⟩:=I.list h
 obtain⟨its',r',⟨o',n',e',_,_,d'⟩,_⟩:=I.list h'
 rw [e] at e';cases e'
 rw [d] at d'
 injection d' with d1 _
 have:its=its':=by simpa using congrArg Array.toList d1
 subst this
 exact r.inj r'
theorem Inv.tuple_inj (I:Inv X pins Z H s) (h:SqT X.K H a xs) (h':SqT X.K H a ys):xs=ys:=by
 obtain⟨its,r,⟨o,e,_,n,d⟩,_⟩:=I.tuple h
 obtain⟨its',r',⟨o',e',_,n',d'⟩,_⟩:=I.tuple h'
 rw [e] at e';cases e'
 rw [d] at d'
 injection d' with d1 _
 have:its=its':=by simpa using congrArg Array.toList d1
 subst this
 exact r.inj r'
end
noncomputable abbrev Cx.wish (X:Cx) (E:Value->Shared->Prop):Cx:={ X with xe:=E }
abbrev Cx.nox (X:Cx):Cx:=X.wish λ_ _=>False
theorem Cx.Ok.wish {X:Cx}(ok:X.Ok) (E:Value->Shared->Prop):(X.wish E).Ok:=
 ⟨ok.mod,ok.kind,ok.glob,ok.blt,ok.above,ok.inj,ok.has,ok.cab,ok.hd,ok.frames,ok.stk,ok.exf,ok.bs,ok.bsz,ok.noex,ok.exfs,ok.funs,ok.frf⟩
theorem Cx.Ok.unwish {X:Cx}{E:Value->Shared->Prop}(ok:(X.wish E).Ok):X.Ok:=
 ⟨ok.mod,ok.kind,ok.glob,ok.blt,ok.above,ok.inj,ok.has,ok.cab,ok.hd,ok.frames,ok.stk,ok.exf,ok.bs,ok.bsz,ok.noex,ok.exfs,ok.funs,ok.frf⟩
section
variable {X:Cx}{pins:List (Addr×Obj)}{Z:St}{H:Hp}{s:Shared}{E:Value->Shared->Prop}
theorem Inv.wish (I:Inv X pins Z H s) (E:Value->Shared->Prop):Inv (X.wish E) pins Z H s:=⟨I.ok.wish E,I.os,I.bare,I.base,I.loc,I.cell,I.free,I.freeC,I.pin,I.hok,I.len⟩
theorem Inv.unwish (I:Inv (X.wish E) pins Z H s):Inv X pins Z H s:=⟨I.ok.unwish,I.os,I.bare,I.base,I.loc,I.cell,I.free,I.freeC,I.pin,I.hok,I.len⟩
theorem SP.unwish {D:Ends}{f:Flow}{s':Shared}(h:SP (X.wish E) pins D f s'):SP X pins D f s':=by
 cases f with
 | next=>obtain⟨Z',H',I,q⟩:=h;exact⟨Z',H',I.unwish,q⟩
 | brk=>obtain⟨Z',H',I,q⟩:=h;exact⟨Z',H',I.unwish,q⟩
 | cont=>obtain⟨Z',H',I,q⟩:=h;exact⟨Z',H',I.unwish,q⟩
 | ret u=>obtain⟨v,Z',H',I,r,q⟩:=h;exact⟨v,Z',H',I.unwish,r,q⟩
theorem PSs.nox {st:List Stmt}{t:TS}(h:PSs X.nox st t):PSs X st t:=λpins s Z H D I hw =>
 Qe (h pins s Z H D (I.wish _) hw) (λ_ _ q=>q.unwish) λ_ _ z=>False.elim z
end
section
variable {X:Cx}{st:Stmt}{rest:List Stmt}{t u:TS}{e:Expr}{te:TE}{pos:Pos}
noncomputable def qRK:TS:=λD Z H=>D.nx Z H
noncomputable def qTh (t u:TS):TS:=λD Z H=>t { D with nx:=u D } Z H
theorem qNn:PSs X [] qRK:=λ_ _ Z H _ I h=>wpAny_execs_nil ⟨Z,H,I,h⟩
theorem qJ9 (h1:PS X st t) (h2:PSs X rest u):PSs X (st::rest) (qTh t u):=by
 intro pins s Z H D I h
 refine wpAny_execs_cons (aw (h1 pins s Z H { D with nx:=u D } I h) λf s1 q=>?_)
 cases f with
 | next =>
  obtain⟨Z',H',I',q⟩:=q
  exact h2 pins s1 Z' H' D I' q
 | ret v=>exact q
 | brk=>exact q
 | cont=>exact q
theorem Inv.quiet {pins:List (Addr×Obj)}{Z:St}{H:Hp}{s:Shared}(I:Inv X pins Z H s):interactive X.env=false:=by simp [interactive,I.ok.kind]
noncomputable def qRL (te:TE):TS:=λD Z H=>te Z H λ_ H1=>D.nx Z H1
theorem yL (he:PE X e te) (hs:swapsWith e none pos.line X.env=pure false:=by rfl):PS X (.Expr e pos) (qRL te):=by
 intro pins s Z H D I h
 exact wpAny_Expr_any (aw (he pins s Z H _ I h) λv s1 ⟨x,H1,I1,r1,q1⟩=>⟨Z,H1,I1,q1⟩) I.quiet hs
noncomputable def qTi (te:TE):TS:=λD Z H=>te Z H D.rt
theorem xu (he:PE X e te):PS X (.Return (some e) pos) (qTi te):=by
 intro pins s Z H D I h
 exact wpAny_Return_some (aw (he pins s Z H _ I h) λv s1 ⟨x,H1,I1,r1,q1⟩=>⟨x,Z,H1,I1,r1,q1⟩)
noncomputable def qTm (c:TT) (t u:TS):TS:=λD Z H=>c Z H λb H1=>if b=true then t D Z H1 else u D Z H1
theorem qRX {c:Expr}{a b:List Stmt}{tc:TT}(hc:PT X c tc) (ha:PSs X a t) (hb:PSs X b u):PS X (.If c a b pos) (qTm tc t u):=by
 intro pins s Z H D I h
 refine wpAny_If (aw (hc pins s Z H _ I h) λd s1 ⟨H1,I1,q1⟩=>?_)
 cases d with
 | true=>exact ha pins s1 Z H1 D I1 q1
 | false=>exact hb pins s1 Z H1 D I1 q1
end
abbrev TG:=V->St->Hp->(St->Hp->Prop)->Prop
abbrev iA:=List V->St->Hp->(St->Hp->Prop)->Prop
def PG (X:Cx) (target:Expr) (t:TG):Prop:=
 ∀(pins:List (Addr×Obj)) (s:Shared) (Z:St) (H:Hp) (v:V) (u:Value) (Q:St->Hp->Prop),Inv X pins Z H s->RelV v u->t v Z H Q ->
   wpAny (model X.prog X.w) X.A (assign target X.env u) (λ_ s'=>∃Z' H',Inv X pins Z' H' s'/\Q Z' H') X.xe s
def lN (X:Cx) (ts:List Expr) (t:iA):Prop:=
 ∀(pins:List (Addr×Obj)) (s:Shared) (Z:St) (H:Hp) (vs:List V) (us:List Value) (Q:St->Hp->Prop),Inv X pins Z H s->Vals vs us->t vs Z H Q ->
   wpAny (model X.prog X.w) X.A (assignInOrder ((assignEach ts X.env).map (·.2)) us) (λ_ s'=>∃Z' H',Inv X pins Z' H' s'/\Q Z' H') X.xe s
section
variable {X:Cx}{pos:Pos}
noncomputable def jG (i:Nat):TG:=λv Z H Q=>Q (Z.set i (some v)) H
theorem pS {i:Nat}{x:Str}(hN:X.N.Nodup) (hi:X.N[i]?=some x) (hx:lP X.env.scope x) (hf:X.fn x=true∨X.env.scope.names.lookup x=some .local:=by first|exact .inl rfl|exact .inr rfl|assumption):PG X (.Name x pos) (jG i):=by
 intro pins s Z H v u Q I r h
 exact wpAny_assign_Name (zz I hN hi hx r (λs' I'=>⟨_,H,I',h⟩) hf)
noncomputable def rh:iA:=λvs Z H Q=>vs=[]/\Q Z H
noncomputable def oQ (t:TG) (u:iA):iA:=λvs Z H Q=>∃v r,vs=v::r/\t v Z H fun Z' H'=>u r Z' H' Q
theorem yJ:lN X [] rh:=by
 intro pins s Z H vs us Q I r h
 obtain⟨e,h⟩:=h
 subst e
 cases r
 exact assignInOrder_nil ⟨Z,H,I,h⟩
theorem tZ {e:Expr}{es:List Expr}{t:TG}{u:iA}(h1:PG X e t) (h2:lN X es u)
  (hs:(assignEach (e::es) X.env).map (·.2)=assign e X.env::(assignEach es X.env).map (·.2):=by rfl):lN X (e::es) (oQ t u):=by
 intro pins s Z H vs us Q I r h
 obtain⟨v,vr,e1,h⟩:=h
 subst e1
 cases r with
 | cons r rr =>
  rw [hs]
  refine assignInOrder_cons (aw (h1 pins s Z H _ _ _ I r h) λ_ s1 ⟨Z1,H1,I1,q1⟩=>?_)
  exact h2 pins s1 Z1 H1 _ _ Q I1 rr q1
noncomputable def ri (K:Qb) (n:Nat) (t:iA):TG:=λv Z H Q=>∃a xs,v=.ref a/\SqT K H a xs/\xs.length=n/\t xs Z H Q
theorem k0 {es:List Expr}{k:Nat}{t:iA}{n:Nat}(hc:X.calm=true) (h:lN X es t)
  (hn:(assignEach es X.env).length=n:=by rfl) (hst:(assignEach es X.env).findIdx? (·.1)=none:=by rfl):PG X (.Tuple es k pos) (ri X.K n t):=by
 intro pins s Z H v u Q I r hw
 obtain⟨a,xs,e1,hq,hl,hw⟩:=hw
 subst e1
 cases r
 obtain⟨its,rv,ht,hz⟩:=I.tuple hq
 refine assign_Tuple_tuple (I.ok.hd hc) ht (by simp [hn,<-hl,rv.length]) hst λh' hx=>?_
 have I1:Inv X pins Z H { s with heap:=h' }:=I.kept (t':=s.toks) λb o e=>hx b o (bK (Qi e)) e
 exact h pins _ Z H xs _ Q I1 (by simpa using rv) hw
noncomputable def v7 (te:TE) (g:TG):TS:=λD Z H=>te Z H λx H1=>g x Z H1 D.nx
theorem su {tg e:Expr}{te:TE}{g:TG}(he:PE X e te) (hg:PG X tg g) (hs:swapsWithSole [tg] e pos.line X.env=pure false:=by rfl) (hw:swappedStores [tg] e X.env=pure none:=by rfl)
  (h1:(assignEach [tg] X.env).map (·.2)=[assign tg X.env]:=by rfl):PS X (.Assign [tg] e pos) (v7 te g):=by
 intro pins s Z H D I h
 refine wpAny_Assign_stores (aw (he pins s Z H _ I h) λv s1 ⟨x,H1,I1,r1,q1⟩=>?_) hs hw
 rw [h1]
 exact aw (hg pins s1 Z H1 x v _ I1 r1 q1) λ_ s2 q=>q
theorem xw {i:Nat}{x:Str}{e:Expr}{te:TE}{pos':Pos}(hN:X.N.Nodup) (hi:X.N[i]?=some x) (hx:lP X.env.scope x) (he:PE X e te) (hs:swapsWith e (some (.Name x pos')) pos.line X.env=pure false:=by rfl) (hf:X.fn x=true∨X.env.scope.names.lookup x=some .local:=by first|exact .inl rfl|exact .inr rfl|assumption) :
  PS X (.Assign [.Name x pos'] e pos) (v7 te (jG i)):=by
 intro pins s Z H D I h
 refine wpAny_Assign_Name (aw (he pins s Z H _ I h) λv s1 ⟨y,H1,I1,r1,q1⟩=>?_) hs
 exact zz I1 hN hi hx r1 (λs2 I2=>⟨_,H1,I2,q1⟩) hf
end
section
variable {X:Cx}{pos:Pos}
noncomputable def qO4 (c:TT) (tb:TS):TS:=λD Z H=>∃W:Nat->St->Hp->Prop,(∃m,W m Z H)/\∀m Z H,W m Z H ->
 c Z H λb H1=>if b=true then ∃N:St->Hp->Prop,(∀Z' H',N Z' H'->∃m',m'<m/\W m' Z' H')/\tb { D with nx:=N,ct:=N,bk:=D.nx } Z H1 else D.nx Z H1
theorem qKa {c:Expr}{body:List Stmt}{tc:TT}{tb:TS}(hp:PassesOwn (model X.prog X.w) X.A X.env X.xe) (hc:PT X c tc) (hb:PSs X body tb):PS X (.While c body [] pos) (qO4 tc tb):=by
 intro pins s Z H D I h
 obtain⟨W,⟨m0,w0⟩,turn⟩:=h
 refine wpAny_While (codeAny_whileLoop (λn s'=>∃Z' H',Inv X pins Z' H' s'/\W n Z' H') ?_ m0 ⟨Z,H,I,w0⟩)
 rintro n s1 ⟨Z1,H1,I1,w1⟩
 refine wpAny_passesOwn hp (aw (hc pins s1 Z1 H1 _ I1 (turn n Z1 H1 w1)) λb s2 ⟨H2,I2,q2⟩=>?_)
 cases b with
 | true =>
  obtain⟨N,hN,q2⟩:=q2
  rw [Ql rfl]
  refine wpAny_passesOwn hp (aw (hb pins s2 Z1 H2 _ I2 q2) λf s3 q3=>?_)
  cases f with
  | next =>
   obtain⟨Z3,H3,I3,n3⟩:=q3
   obtain⟨m',hm,w3⟩:=hN Z3 H3 n3
   exact⟨m',hm,Z3,H3,I3,w3⟩
  | cont =>
   obtain⟨Z3,H3,I3,n3⟩:=q3
   obtain⟨m',hm,w3⟩:=hN Z3 H3 n3
   exact⟨m',hm,Z3,H3,I3,w3⟩
  | brk=>exact q3
  | ret v=>exact q3
 | false =>
  rw [Qm fZ]
  exact wpAny_execs_nil ⟨Z1,H2,I2,q2⟩
end
structure It where
 go:Nat->Hp->Prop
 yld:Nat->Hp->V->Hp->Prop
 stop:Nat->Hp->Prop
def dS (X:Cx) (pins:List (Addr×Obj)) (H:Hp) (b:Addr):Prop:=
 H b=none/\b≠X.env.locals/\b∉X.fs/\(b∈X.ex∨X.s₀.heap.objs.size<=b)/\(∀x c,X.env.cells.lookup x=some c->c≠b)/\∀p∈X.pn++pins,p.1≠b
theorem Inv.fpOk {X:Cx}{pins:List (Addr×Obj)}{Z:St}{H H':Hp}{s:Shared}{b:Addr}(I:Inv X pins Z H s) (hb:s.heap.objs.size<=b) (hn:H' b=none):dS X pins H' b:=by
 refine⟨hn,iD (bG I.lt hb),I.nofs hb,.inr (aM I.sz hb),λx c e z=>?_,λp hp z=>?_⟩
 ·obtain⟨v,q⟩:=I.cell x c e
  exact Qn (bG q.lt (by rw [z];exact hb)) (fA _)
 ·exact Qn (bG (Qi (I.pin p hp).1) (by rw [z];exact hb)) (fA _)
structure Turn (P:Program) (w:World) (K:Qb) (tg:Expr) (J:It) (fp:List Addr) (it:Addr) (tn:Nat->Heap->Prop):Prop where
 mem:it∈fp
 obj:∀i h,tn i h->∀b∈fp,∃o,h.get? b=some o/\∀v,o.data≠.cell v
 keep:∀i h h',tn i h->(∀b∈fp,∀o,h.get? b=some o->h'.get? b=some o)->tn i h'
 item:∀(X:Cx),X.prog=P->X.w=w->X.K=K->X.calm=true->∀(i:Nat) (pins:List (Addr×Obj)) (s:Shared) (Z:St) (H:Hp) (E:Value->Shared->Prop),Inv X pins Z H s->(∀b∈fp,dS X pins H b)->tn i s.heap->J.go i H ->
  wpAny (model P w) X.A (pyNext (.ref it)) (λr s1=>∃u,r=some u /\
   wpAny (model P w) X.A (letOwnedTupleGo tg (.ref it) u) (λ_ s2=>∃x H',Inv X pins Z H' s2/\RelV x u/\J.yld i H x H'/\tn (i+1) s2.heap/\∀b∈fp,H' b=none) E s1) E s
 done:∀(X:Cx),X.prog=P->X.w=w->X.K=K->X.calm=true->∀(i:Nat) (pins:List (Addr×Obj)) (s:Shared) (Z:St) (H:Hp) (E:Value->Shared->Prop),Inv X pins Z H s->(∀b∈fp,dS X pins H b)->tn i s.heap->J.stop i H ->
  wpAny (model P w) X.A (pyNext (.ref it)) (λr s1=>r=none/\Inv X pins Z H s1) E s
 self:∀(A:Around) (i:Nat) (s:Shared) (Q:Value->Shared->Prop) (E:Value->Shared->Prop),tn i s.heap->Q (.ref it) s->wpAny (model P w) A (pyIter (.ref it)) Q E s
abbrev TI:=St->Hp->(It->Hp->Prop)->Prop
def qv (X:Cx) (pins:List (Addr×Obj)) (Z:St) (tg:Expr) (R:It->Hp->Prop) (itv:Value) (s2:Shared):Prop:=
 ∃(it:Addr) (fp:List Addr) (tn:Nat->Heap->Prop) (J:It) (H':Hp),itv=.ref it/\Inv X pins Z H' s2/\Turn X.prog X.w X.K tg J fp it tn/\tn 0 s2.heap/\(∀b∈fp,dS X pins H' b)/\R J H'
def PI (X:Cx) (tg iter:Expr) (wi:TI):Prop:=
 ∀(pins:List (Addr×Obj)) (s:Shared) (Z:St) (H:Hp) (R:It->Hp->Prop),Inv X pins Z H s->wi Z H R ->
   wpAny (model X.prog X.w) X.A (eval iter X.env) (λv s1=>wpAny (model X.prog X.w) X.A (pyIter v) (qv X pins Z tg R) X.xe s1) X.xe s
theorem mw {M:Model}{A:Around}{E:Value->Shared->Prop}{s:Shared}{tg:Expr}{it:Addr}{u:Value}{o:Obj}{n:String}{vs:Array Value}{Q:Unit->Shared->Prop}(ho:s.heap.get? it=some o) (hc:o.cls=.type n) (hd:o.data=.fields vs)
  (hn:["enumerate","zip","dict_itemiterator","dict_reverseitemiterator","odict_iterator","itertools.zip_longest","itertools.pairwise"].contains n=false) (hQ:Q () s):wpAny M A (letOwnedTupleGo tg (.ref it) u) Q E s:=by
 unfold letOwnedTupleGo
 cases tg<;>first
  | exact Qd hQ
  | (cases u<;>first
    | exact Qd hQ
    | (refine Qc (wpAny_load ho ?_)
       rw [hc,hd]
       show wpAny M A (if (["enumerate","zip","dict_itemiterator","dict_reverseitemiterator","odict_iterator","itertools.zip_longest","itertools.pairwise"].contains n&&vs[0]? == some (rawInt _))=true then _ else _) Q E s
       rw [Qm (by intro h;rw [hn,nL] at h;cases h)]
       exact Qd hQ))
noncomputable def qz (K:Qb) (a:Addr):It:=
 ⟨λi H=>∃xs x,SqL K H a xs/\xs[i]?=some x,λi H x H'=>H'=H/\∀xs,SqL K H a xs->xs[i]?=some x,λi H=>∃xs,SqL K H a xs/\xs.length<=i⟩
noncomputable def uS (K:Qb) (a:Addr):It:=
 ⟨λi H=>∃xs x,SqT K H a xs/\xs[i]?=some x,λi H x H'=>H'=H/\∀xs,SqT K H a xs->xs[i]?=some x,λi H=>∃xs,SqT K H a xs/\xs.length<=i⟩
def qx (lo:Int) (n:Nat):It:=⟨λi _=>i<n,λi H x H'=>H'=H/\x=.int (lo+i),λi _=>n<=i⟩
theorem qHc {P:Program}{w:World}{K:Qb}{tg:Expr}(a it:Addr):Turn P w K tg (qz K a) [it] it (λi h=>h.IsListIter it a i) where
 mem:=by simp
 obj:=λi h st b hb=>by
  have e:b=it:=by simpa using hb
  subst e
  obtain⟨o,e,c,d⟩:=st
  exact⟨o,e,λv z=>by rw [d] at z;cases z⟩
 keep:=λi h h' st k=>st.at λo e=>k it (by simp) o e
 item:=by
  intro X hP hw hK hc i pins s Z H E I hf st hg
  subst hP hw hK
  obtain⟨xs,x,hq,hx⟩:=hg
  obtain⟨its,rv,p,hz⟩:=I.list hq
  obtain⟨u,hu,ru⟩:=rv.get hx
  obtain⟨f0,f1,f2,f3,f4,f5⟩:=hf it (by simp)
  refine wpAny_pyNext_list_item st p.isList (x:=u) (by simpa using hu) λh' st' sb=>?_
  have I1:Inv X pins Z H { s with heap:=h' }:=I.turned (t':=s.toks) (λb o hb e=>(sb.2 b hb).trans e) f0 f1 f3 f4 f5
  obtain⟨o,e,c,d⟩:=id st'
  exact⟨u,rfl,mw (s:={ s with heap:=h' }) e c d (by decide) ⟨x,H,I1,ru,⟨rfl,λys hy=>by rw [I.list_inj hy hq];exact hx⟩,st',λb hb=>(hf b hb).1⟩⟩
 done:=by
  intro X hP hw hK hc i pins s Z H E I hf st hg
  subst hP hw hK
  obtain⟨xs,hq,hx⟩:=hg
  obtain⟨its,rv,p,hz⟩:=I.list hq
  obtain⟨f0,f1,f2,f3,f4,f5⟩:=hf it (by simp)
  have hl:=rv.length
  exact wpAny_pyNext_list_end (I.ok.hd hc) st p.isList (by simp;omega) λh' eb=>⟨rfl,I.turned (t':=s.toks) (λb o hb e=>eb b o hb e) f0 f1 f3 f4 f5⟩
 self:=λ_ _ _ _ _ st h=>wpAny_pyIter_listiter st h
theorem qGz {P:Program}{w:World}{K:Qb}{tg:Expr}(a it:Addr):Turn P w K tg (uS K a) [it] it (λi h=>h.IsTupleIter it a i) where
 mem:=by simp
 obj:=λi h st b hb=>by
  have e:b=it:=by simpa using hb
  subst e
  obtain⟨o,e,c,d⟩:=st
  exact⟨o,e,λv z=>by rw [d] at z;cases z⟩
 keep:=λi h h' st k=>st.at λo e=>k it (by simp) o e
 item:=by
  intro X hP hw hK hc i pins s Z H E I hf st hg
  subst hP hw hK
  obtain⟨xs,x,hq,hx⟩:=hg
  obtain⟨its,rv,p,hz⟩:=I.tuple hq
  obtain⟨u,hu,ru⟩:=rv.get hx
  obtain⟨f0,f1,f2,f3,f4,f5⟩:=hf it (by simp)
  refine wpAny_pyNext_tuple_item st (show s.heap.IsTuple a its.toArray from p) (x:=u) (by simpa using hu) λh' st' sb=>?_
  have I1:Inv X pins Z H { s with heap:=h' }:=I.turned (t':=s.toks) (λb o hb e=>(sb.2 b hb).trans e) f0 f1 f3 f4 f5
  obtain⟨o,e,c,d⟩:=id st'
  exact⟨u,rfl,mw (s:={ s with heap:=h' }) e c d (by decide) ⟨x,H,I1,ru,⟨rfl,λys hy=>by rw [I.tuple_inj hy hq];exact hx⟩,st',λb hb=>(hf b hb).1⟩⟩
 done:=by
  intro X hP hw hK hc i pins s Z H E I hf st hg
  subst hP hw hK
  obtain⟨xs,hq,hx⟩:=hg
  obtain⟨its,rv,p,hz⟩:=I.tuple hq
  obtain⟨f0,f1,f2,f3,f4,f5⟩:=hf it (by simp)
  have hl:=rv.length
  exact wpAny_pyNext_tuple_end (I.ok.hd hc) st (show s.heap.IsTuple a its.toArray from p) (by simp;omega) λh' eb=>⟨rfl,I.turned (t':=s.toks) (λb o hb e=>eb b o hb e) f0 f1 f3 f4 f5⟩
 self:=λ_ _ _ _ _ st h=>wpAny_pyIter_tupleiter st h
theorem qGA {P:Program}{w:World}{K:Qb}{tg:Expr}(it:Addr) (lo:Int) (n:Nat):Turn P w K tg (qx lo n) [it] it (λi h=>IsRangeIter h it (lo+(i:Nat) * 1) ((n:Int) - (i:Nat)) 1) where
 mem:=by simp
 obj:=λi h st b hb=>by
  have e:b=it:=by simpa using hb
  subst e
  exact⟨_,st,λv z=>by
   have z':Data.fields _=Data.cell v:=z
   cases z'⟩
 keep:=λi h h' st k=>k it (by simp) _ st
 item:=by
  intro X hP hw hK hc i pins s Z H E I hf st hg
  subst hP hw hK
  obtain⟨f0,f1,f2,f3,f4,f5⟩:=hf it (by simp)
  have W:=Walks.range (prog:=X.prog) (w:=X.w) (I.ok.hd hc) it lo 1 n
  refine W.item i s _ _ hg st λv h' tk hv st' kk=>?_
  obtain⟨t,rfl⟩:=hv
  have I1:Inv X pins Z H { s with heap:=h',toks:=tk }:=I.turned (λb o hb e=>kk b o (by simpa using hb) e) f0 f1 f3 f4 f5
  refine⟨_,rfl,mw (s:={ s with heap:=h',toks:=tk }) (n:="range_iterator") st' rfl rfl (by decide) ⟨.int (lo+i),H,I1,⟨t,?_⟩,⟨rfl,rfl⟩,st',λb hb=>(hf b hb).1⟩⟩
  rw [Int.mul_one]
 done:=by
  intro X hP hw hK hc i pins s Z H E I hf st hg
  subst hP hw hK
  obtain⟨f0,f1,f2,f3,f4,f5⟩:=hf it (by simp)
  exact wpAny_pyNext_range_end (I.ok.hd hc) st (by have:n<=i:=hg;omega) λh' eb=>⟨rfl,I.turned (t':=s.toks) (λb o hb e=>eb b o hb e) f0 f1 f3 f4 f5⟩
 self:=λ_ _ _ _ _ st h=>wpAny_pyIter_rangeiter st h
end L2
namespace L2
open PySem PySem.Spec PyProof.Rows
section
variable {X:Cx}{tg:Expr}
theorem qJ8 {pins:List (Addr×Obj)}{Z:St}{H:Hp}{s:Shared}{R:It->Hp->Prop}{E:Value->Shared->Prop}{lo hi:Int}{t u v:Tok}{tk:Nat}(I:Inv X pins Z H s) (h1:-(2^62)<=lo) (h2:lo<2^62) (h3:-(2^62)<=hi) (h4:hi<2^62)
  (q:R (qx lo (hi - lo).toNat) H):wpAny (model X.prog X.w) X.A (pyIter (.ref s.heap.objs.size)) (qv X pins Z tg R) E { s with heap:=s.heap.push { cls:=.type "range",data:=.fields #[.int lo t,.int hi u,.int 1 v] },toks:=tk }:=by
 refine wpAny_pyIter_range (IsRange.new ..) (small_one h1 h2 h3 h4) ?_
 have I1:Inv X pins Z H { s with heap:=s.heap.push { cls:=.type "range",data:=.fields #[.int lo t,.int hi u,.int 1 v] },toks:=tk }:=I.kept λb o e=>Qg _ e
 refine⟨(s.heap.push { cls:=.type "range",data:=.fields #[.int lo t,.int hi u,.int 1 v] }).objs.size,[(s.heap.push { cls:=.type "range",data:=.fields #[.int lo t,.int hi u,.int 1 v] }).objs.size],_,_,H,rfl,
  I1.kept (t':=tk) λb o e=>Qg _ e,qGA _ lo (hi - lo).toNat,?_,λb hb=>?_,q⟩
 ·have e1:lo+((0:Nat):Int) * 1=lo:=by simp
  have e2:(((hi - lo).toNat:Nat):Int) - ((0:Nat):Int)=Builtin.Range.rangeSize lo hi 1:=by rw [rangeSize_one];split<;>omega
  show IsRangeIter _ _ (lo+((0:Nat):Int) * 1) ((((hi - lo).toNat:Nat):Int) - ((0:Nat):Int)) 1
  rw [e1,e2]
  exact Qh _ rfl
 ·have e:b=(s.heap.push { cls:=.type "range",data:=.fields #[.int lo t,.int hi u,.int 1 v] }).objs.size:=by simpa using hb
  subst e
  exact I1.fpOk (ar _) (I1.hok.fresh (ar _))
def qSm (ta:TA):TI:=fun Z H R=>ta Z H λvs H1=>∃j:Int,vs=[.int j]/\-(2^62)<=j/\j<2^62/\R (qx 0 j.toNat) H1
theorem qHQ {a:Expr}{ta:TA}{p pos:Pos}(hg:Gl X "range") (hm:X.mg "range"=none) (ha:PA X [a] ta) (hs:starEach [a] X.env=[(false,eval a X.env)]:=by rfl):PI X tg (.Call (.Name "range" p) [a] [] pos) (qSm ta):=by
 intro pins s Z H R I h
 refine Call_ (ik I hg hm boot_range (iV (aw (ha pos pins s Z H _ I h) λus s1 ⟨vs,H1,I1,r1,q1⟩=>?_) hs rfl))
 obtain⟨j,e,q1,q2,q⟩:=q1
 subst e
 cases r1 with
 | cons r rr =>
  cases rr
  obtain⟨t,rfl⟩:=r
  exact call_range_1 (qJ8 I1 (by omega) (by omega) q1 q2 (by simpa using q))
noncomputable def qTn (wi:TI) (g:TG) (tb:TS):TS:=λD Z H=>wi Z H λJ H1=>∃W:Nat->Nat->St->Hp->Prop,(∃m,W 0 m Z H1)/\∀i m Z H,W i m Z H ->
 (J.stop i H/\D.nx Z H)∨(J.go i H/\∃N:St->Hp->Prop,(∀Z' H',N Z' H'->∃m',m'<m/\W (i+1) m' Z' H')/\∀x H',J.yld i H x H'->g x Z H' fun Z2 H2=>tb { D with nx:=N,ct:=N,bk:=D.nx } Z2 H2)
noncomputable def pB (fp:List Addr) (h:Heap):List (Addr×Obj):=fp.filterMap λb=>(h.get? b).map λo=>(b,o)
theorem lu {fp:List Addr}{h:Heap}{b:Addr}{o:Obj}(hb:b∈fp) (e:h.get? b=some o):(b,o)∈pB fp h:=List.mem_filterMap.mpr ⟨b,hb,by rw [e];rfl⟩
theorem qHX {fp:List Addr}{h:Heap}{p:Addr×Obj}(hp:p∈pB fp h):p.1∈fp/\h.get? p.1=some p.2:=by
 obtain⟨b,hb,e⟩:=List.mem_filterMap.mp hp
 cases q:h.get? b with
 | none=>rw [q] at e;cases e
 | some o =>
  rw [q] at e
  have e':(b,o)=p:=fX e
  subst e'
  exact⟨hb,q⟩
theorem Inv.pinned {pins:List (Addr×Obj)}{Z:St}{H:Hp}{s:Shared}{fp:List Addr}(I:Inv X pins Z H s) (hf:∀b∈fp,dS X pins H b) (ho:∀b∈fp,∃o,s.heap.get? b=some o/\∀v,o.data≠.cell v):Inv X (pins++pB fp s.heap) Z H s:=
 I.pins_of λp hp=>(yaA.mp hp).elim (λz=>I.pin p (cM _ z)) λz=>by
  obtain⟨hb,e⟩:=qHX z
  obtain⟨f0,f1,f2,_⟩:=hf p.1 hb
  obtain⟨o,e',d⟩:=ho p.1 hb
  rw [e] at e';cases e'
  exact⟨e,f0,f1,f2,d⟩
theorem Inv.unpinned {pins pl:List (Addr×Obj)}{Z:St}{H:Hp}{s:Shared}(I:Inv X (pins++pl) Z H s):Inv X pins Z H s:=I.pins_of λp hp=>I.pin p (cM _ (iH _ hp))
theorem qPC {iter:Expr}{body:List Stmt}{wi:TI}{g:TG}{tb:TS}{pos:Pos}(hp:PassesOwn (model X.prog X.w) X.A X.env X.xe) (hc:X.calm=true) (hi:PI X tg iter wi) (hg:PG X tg g) (hb:PSs X body tb)
  (hs:∀x,foldedSetIterable iter X.env x=pure x:=by intro _;rfl):PS X (.For tg iter body [] pos) (qTn wi g tb):=by
 intro pins s Z H D I h
 refine wpAny_For (aw (hi pins s Z H _ I h) λv s1 h1=>aw h1 λitv s2 h2=>?_) hs
 obtain⟨it,fp,tn,J,H2,e,I2,T,st2,f2,W,⟨m0,w0⟩,turn⟩:=h2
 subst e
 have stat:∀{H':Hp},(∀b∈fp,H' b=none)->∀b∈fp,dS X pins H' b:=λhn b hb=>⟨hn b hb,(f2 b hb).2⟩
 refine codeAny_forLoop_any (λn s'=>∃i Z' H',Inv X pins Z' H' s'/\tn i s'.heap/\(∀b∈fp,H' b=none)/\W i n Z' H') ?_ m0 ⟨0,Z,H2,I2,st2,λb hb=>(f2 b hb).1,w0⟩
 rintro n s3 ⟨i,Z3,H3,I3,st3,fr3,w3⟩
 rcases turn i n Z3 H3 w3 with ⟨stop,qn⟩|⟨go,N,hN,step⟩
 ·refine wpAny_passesOwn hp (aw (T.done X rfl rfl rfl hc i pins s3 Z3 H3 X.xe I3 (stat fr3) st3 stop) λr s4 ⟨hr,I4⟩=>?_)
  subst hr
  exact wpAny_execs_nil ⟨Z3,H3,I4,qn⟩
 ·refine wpAny_passesOwn hp (aw (T.item X rfl rfl rfl hc i pins s3 Z3 H3 X.xe I3 (stat fr3) st3 go) λr s4 ⟨u,hr,h4⟩=>?_)
  subst hr
  refine wpAny_passesOwn hp (aw h4 λ_ s5 ⟨x,H5,I5,r5,y5,st5,fr5⟩=>?_)
  have I5':=I5.pinned (stat fr5) (T.obj _ _ st5)
  refine wpAny_passesOwn hp (aw (hg _ s5 Z3 H5 x u _ I5' r5 (step x H5 y5)) λ_ s6 ⟨Z6,H6,I6,q6⟩=>?_)
  refine wpAny_passesOwn hp (aw (hb _ s6 Z6 H6 _ I6 q6) λf s7 q7=>?_)
  have again:∀{Z7:St} {H7:Hp},Inv X (pins++pB fp s5.heap) Z7 H7 s7->N Z7 H7->∃m,m<n/\∃i Z' H',Inv X pins Z' H' s7/\tn i s7.heap/\(∀b∈fp,H' b=none)/\W i m Z' H':=λ{Z7 H7} I7 n7=>by
   obtain⟨m',hm,w7⟩:=hN Z7 H7 n7
   refine⟨m',hm,i+1,Z7,H7,I7.unpinned,T.keep _ _ _ st5 λb hb o e=>(I7.pin (b,o) (cM _ (cM _ (lu hb e)))).1,λb hb=>?_,w7⟩
   obtain⟨o,e,d⟩:=T.obj _ _ st5 b hb
   exact (I7.pin (b,o) (cM _ (cM _ (lu hb e)))).2.1
  cases f with
  | next=>obtain⟨Z7,H7,I7,n7⟩:=q7;exact again I7 n7
  | cont=>obtain⟨Z7,H7,I7,n7⟩:=q7;exact again I7 n7
  | brk=>obtain⟨Z7,H7,I7,q7⟩:=q7;exact⟨Z7,H7,I7.unpinned,q7⟩
  | ret v=>obtain⟨x7,Z7,H7,I7,r7,q7⟩:=q7;exact⟨x7,Z7,H7,I7.unpinned,r7,q7⟩
end
end L2
namespace L2
open PySem PySem.Spec PyProof.Rows
abbrev R2:=V->V->Hp->VK->Prop
def OpR (X:Cx) (f:Value->Value->Sem Value) (r:R2):Prop:=
 ∀(pins:List (Addr×Obj)) (s:Shared) (Z:St) (H:Hp) (x y:V) (v u:Value) (Q:VK),Inv X pins Z H s->RelV x v->RelV y u->r x y H Q ->
   wpAny (model X.prog X.w) X.A (f v u) (EP X pins Z Q) X.xe s
def uP (X:Cx) (f:Value->Sem Value) (r:V->Hp->VK->Prop):Prop:=
 ∀(pins:List (Addr×Obj)) (s:Shared) (Z:St) (H:Hp) (x:V) (v:Value) (Q:VK),Inv X pins Z H s->RelV x v->r x H Q ->
   wpAny (model X.prog X.w) X.A (f v) (EP X pins Z Q) X.xe s
def CallR (X:Cx) (f:Value) (r:List V->Hp->VK->Prop):Prop:=
 ∀(pins:List (Addr×Obj)) (s:Shared) (Z:St) (H:Hp) (xs:List V) (us:List Value) (Q:VK),Inv X pins Z H s->Vals xs us->r xs H Q ->
   wpAny (model X.prog X.w) X.A (call f us) (EP X pins Z Q) X.xe s
noncomputable def nX (r:R2) (ta tb:TE):TE:=fun Z H Q=>ta Z H λx H1=>tb Z H1 λy H2=>r x y H2 Q
noncomputable def tUn (r:V->Hp->VK->Prop) (ta:TE):TE:=fun Z H Q=>ta Z H λx H1=>r x H1 Q
noncomputable def rI (C:Int->Int->Prop) (g:Int->Int->V):R2:=λx y H Q=>∃i j,x=.int i/\y=.int j/\C i j/\Q (g i j) H
noncomputable def iI (g:Int->Int->V):R2:=λx y H Q=>∃i j,x=.int i/\y=.int j/\Q (g i j) H
def rU (g:Int->V):V->Hp->VK->Prop:=λx H Q=>∃i,x=.int i/\Q (g i) H
section
variable {X:Cx}{a b c:Expr}{ta tb tc:TE}{pos:Pos}
theorem rC (ha:PE X a ta) (hb:PE X b tb) {pins:List (Addr×Obj)}{s:Shared}{Z:St}{H:Hp}{R:V->V->Hp->Prop}(I:Inv X pins Z H s)
  (h:ta Z H λx H1=>tb Z H1 λy H2=>R x y H2) {Q:Value->Shared->Prop}{f:Value->Value->Sem Value}
  (hf:∀v u s2 x y H2,Inv X pins Z H2 s2->RelV x v->RelV y u->R x y H2->wpAny (model X.prog X.w) X.A (f v u) Q X.xe s2) :
  wpAny (model X.prog X.w) X.A (eval a X.env) (λv s₁=>wpAny (model X.prog X.w) X.A (eval b X.env) (λu s₂=>wpAny (model X.prog X.w) X.A (f v u) Q X.xe s₂) X.xe s₁) X.xe s:=by
 refine aw (ha pins s Z H _ I h) λv s1 ⟨x,H1,I1,r1,q1⟩=>?_
 refine aw (hb pins s1 Z H1 _ I1 q1) λu s2 ⟨y,H2,I2,r2,q2⟩=>?_
 exact hf v u s2 x y H2 I2 r1 r2 q2
theorem qR1 {op:Operator}{r:R2}(ho:OpR X (binaryOp op) r) (ha:PE X a ta) (hb:PE X b tb):PE X (.BinOp a op b pos) (nX r ta tb):=by
 intro pins s Z H Q I h
 exact wpAny_BinOp (rC ha hb I h λv u s2 x y H2 I2 rx ry q=>ho pins s2 Z H2 x y v u Q I2 rx ry q)
theorem qRZ {op:UnaryOp}{r:V->Hp->VK->Prop}(ho:uP X (unaryOp op) r) (ha:PE X a ta):PE X (.UnaryOp op a pos) (tUn r ta):=by
 intro pins s Z H Q I h
 exact UnaryOp_ (aw (ha pins s Z H _ I h) λv s1 ⟨x,H1,I1,r1,q1⟩=>ho pins s1 Z H1 x v Q I1 r1 q1)
theorem lI {f:Value->Value->Sem Value}{C:Int->Int->Prop}{g:Int->Int->Int}
  (rule:∀(i j:Int) (t u:Tok) (s:Shared) (Q:Value->Shared->Prop) (E:Value->Shared->Prop),C i j->Q (.int (g i j) s.toks) { s with toks:=s.toks+1 }->wpAny (model X.prog X.w) X.A (f (.int i t) (.int j u)) Q E s) :
  OpR X f (rI C λi j=>.int (g i j)):=by
 intro pins s Z H x y v u Q I rx ry h
 obtain⟨i,j,rfl,rfl,hc,q⟩:=h
 obtain⟨t,rfl⟩:=rx
 obtain⟨t',rfl⟩:=ry
 exact rule i j t t' s _ _ hc ⟨.int (g i j),H,I.tok _,⟨_,rfl⟩,q⟩
theorem v3 {f:Value->Value->Sem Value}{g:Int->Int->Int}
  (rule:∀(i j:Int) (t u:Tok) (s:Shared) (Q:Value->Shared->Prop) (E:Value->Shared->Prop),Q (.int (g i j) s.toks) { s with toks:=s.toks+1 }->wpAny (model X.prog X.w) X.A (f (.int i t) (.int j u)) Q E s) :
  OpR X f (iI λi j=>.int (g i j)):=by
 intro pins s Z H x y v u Q I rx ry h
 obtain⟨i,j,rfl,rfl,q⟩:=h
 obtain⟨t,rfl⟩:=rx
 obtain⟨t',rfl⟩:=ry
 exact rule i j t t' s _ _ ⟨.int (g i j),H,I.tok _,⟨_,rfl⟩,q⟩
theorem oo {f:Value->Value->Sem Value}{g:Int->Int->Bool}
  (rule:∀(i j:Int) (t u:Tok) (s:Shared) (Q:Value->Shared->Prop) (E:Value->Shared->Prop),Q (.bool (g i j)) s->wpAny (model X.prog X.w) X.A (f (.int i t) (.int j u)) Q E s) :
  OpR X f (iI λi j=>.bl (g i j)):=by
 intro pins s Z H x y v u Q I rx ry h
 obtain⟨i,j,rfl,rfl,q⟩:=h
 obtain⟨t,rfl⟩:=rx
 obtain⟨t',rfl⟩:=ry
 exact rule i j t t' s _ _ ⟨.bl (g i j),H,I,rfl,q⟩
theorem op_add:OpR X (binaryOp .Add) (iI λi j=>.int (i+j)):=v3 λ_ _ _ _ _ _ _ q=>add_int q
theorem qPV:OpR X (binaryOp .Sub) (iI λi j=>.int (i - j)):=v3 λ_ _ _ _ _ _ _ q=>sub_int q
theorem unI {f:Value->Sem Value}{g:Int->Int}
  (rule:∀(i:Int) (t:Tok) (s:Shared) (Q:Value->Shared->Prop) (E:Value->Shared->Prop),Q (.int (g i) s.toks) { s with toks:=s.toks+1 }->wpAny (model X.prog X.w) X.A (f (.int i t)) Q E s) :
  uP X f (rU λi=>.int (g i)):=by
 intro pins s Z H x v Q I rx h
 obtain⟨i,rfl,q⟩:=h
 obtain⟨t,rfl⟩:=rx
 exact rule i t s _ _ ⟨.int (g i),H,I.tok _,⟨_,rfl⟩,q⟩
theorem qOM:uP X (unaryOp .USub) (rU λi=>.int (-i)):=unI λ_ _ _ _ _ q=>neg_int q
end
section
variable {X:Cx}{a b c:Expr}{ta tb tc:TE}{pos:Pos}
theorem qR5:OpR X (compareOp .Lt) (iI λi j=>.bl (decide (i<j))):=oo λ_ _ _ _ _ _ _ q=>lt_int q
theorem qR6:OpR X (compareOp .LtE) (iI λi j=>.bl (decide (i<=j))):=oo λ_ _ _ _ _ _ _ q=>le_int q
theorem qR7:OpR X (compareOp .Gt) (iI λi j=>.bl (decide (j<i))):=oo λ_ _ _ _ _ _ _ q=>gt_int q
theorem qR8:OpR X (compareOp .GtE) (iI λi j=>.bl (decide (j<=i))):=oo λ_ _ _ _ _ _ _ q=>ge_int q
theorem OpR.or {f:Value->Value->Sem Value}{r r':R2}(h:OpR X f r) (h':OpR X f r'):OpR X f (λx y H Q=>r x y H Q∨r' x y H Q):=by
 intro pins s Z H x y v u Q I rx ry q
 rcases q with q|q
 ·exact h pins s Z H x y v u Q I rx ry q
 ·exact h' pins s Z H x y v u Q I rx ry q
theorem qP3 (b:Expr) {op:CmpOp}(h:op≠.In:=by decide) (h2:op≠.NotIn:=by decide):behindInMarks op b=false:=by
 have e1:(op == CmpOp.In)=false:=by cases op<;>first|rfl|exact Qn rfl h
 have e2:(op == CmpOp.NotIn)=false:=by cases op<;>first|rfl|exact Qn rfl h2
 cases b<;>simp [behindInMarks,e1,e2]
theorem yI {op:CmpOp}{r:R2}(ho:OpR X (compareOp op) r) (ha:PE X a ta) (hb:PE X b tb) (hm:behindInMarks op b=false):PE X (.Compare a [op] [b] pos) (nX r ta tb):=by
 intro pins s Z H Q I h
 exact wpAny_Compare1 (rC ha hb I h λv u s2 x y H2 I2 rx ry q=>ho pins s2 Z H2 x y v u Q I2 rx ry q) hm
noncomputable def qRH (t:TE):TT:=fun Z H Q=>t Z H λx H'=>∃k,x=.bl k/\Q k H'
theorem yM {op:CmpOp}{r:R2}(ho:OpR X (compareOp op) r) (ha:PE X a ta) (hb:PE X b tb) (hm:behindInMarks op b=false):PT X (.Compare a [op] [b] pos) (qRH (nX r ta tb)):=by
 intro pins s Z H Q I h
 refine wpAny_isTrue_Compare1 (aw (ha pins s Z H _ I h) λv s1 ⟨x,H1,I1,r1,q1⟩=>aw (hb pins s1 Z H1 _ I1 q1) λu s2 ⟨y,H2,I2,r2,q2⟩ =>
  aw (ho pins s2 Z H2 x y v u _ I2 r1 r2 q2) λc s3 ⟨z,H3,I3,r3,k,e,q3⟩=>?_) hm
 subst e
 cases r3
 exact wpAny_truthy_bool ⟨H3,I3,q3⟩
theorem sf:(sizeLine:Nat)<2^63:=by rw [sizeLine_eq];decide
theorem qGJ:OpR X (binaryOp .Add) (λx y H Q=>∃i j,x=.str i/\y=.str j/\i.length+j.length<=sizeLine/\Q (.str (i++j)) H):=by
 intro pins s Z H x y v u Q I rx ry h
 obtain⟨i,j,rfl,rfl,hz,q⟩:=h
 obtain⟨t,rfl⟩:=rx
 obtain⟨t',rfl⟩:=ry
 exact add_str (λt' tk=>⟨.str (i++j),H,I.tok _,⟨_,rfl⟩,q⟩) hz
theorem gd {x:V}{us:List Value}(r:Vals [x] us):∃u,us=[u]/\RelV x u:=by
 cases r with
 | cons r1 r2=>cases r2;exact⟨_,rfl,r1⟩
theorem rW {x y:V}{us:List Value}(r:Vals [x,y] us):∃u w',us=[u,w']/\RelV x u/\RelV y w':=by
 cases r with
 | cons r1 r2 =>
  cases r2 with
  | cons r3 r4=>cases r4;exact⟨_,_,rfl,r1,r3⟩
theorem qI7 (hc:X.calm=true):CallR X (.builtin "max") (λxs H Q=>∃i j,xs=[.int i,.int j]/\Q (.int (if j > i then j else i)) H):=by
 intro pins s Z H xs us Q I r h
 obtain⟨i,j,rfl,q⟩:=h
 obtain⟨u,w',rfl,⟨t,rfl⟩,⟨t',rfl⟩⟩:=rW r
 refine max_two_ints (I.ok.hd hc) λh' tk k=>⟨_,H,I.kept k,?_,q⟩
 by_cases hj:j > i
 ·rw [Ql hj,Ql hj];exact⟨_,rfl⟩
 ·rw [Qm hj,Qm hj];exact⟨_,rfl⟩
theorem qI4 (hc:X.calm=true):CallR X (.builtin "min") (λxs H Q=>∃i j,xs=[.int i,.int j]/\Q (.int (if j<i then j else i)) H):=by
 intro pins s Z H xs us Q I r h
 obtain⟨i,j,rfl,q⟩:=h
 obtain⟨u,w',rfl,⟨t,rfl⟩,⟨t',rfl⟩⟩:=rW r
 refine min_two_ints (I.ok.hd hc) λh' tk k=>⟨_,H,I.kept k,?_,q⟩
 by_cases hj:j<i
 ·rw [Ql hj,Ql hj];exact⟨_,rfl⟩
 ·rw [Qm hj,Qm hj];exact⟨_,rfl⟩
theorem qJa:CallR X (.type "int") (λxs H Q=>(∃i,xs=[.int i]/\Q (.int i) H)∨∃k,xs=[.bl k]/\Q (.int (if k then 1 else 0)) H):=by
 intro pins s Z H xs us Q I r h
 rcases h with ⟨i,rfl,q⟩|⟨k,rfl,q⟩
 ·obtain⟨u,rfl,t,rfl⟩:=gd r
  exact call_int_int ⟨.int i,H,I,⟨_,rfl⟩,q⟩
 ·obtain⟨u,rfl,r1⟩:=gd r
  cases r1
  exact call_int_bool ⟨.int (if k then 1 else 0),H,I.tok _,⟨_,rfl⟩,q⟩
end
end L2
namespace L2
open PySem PySem.Spec PyProof.Rows
structure ObjM (h:Heap) (x dx C:Addr) (mA:Str->Option Value):Prop where
 obj:h.get? x=some (PySem.W.instObj C dx)
 ns:h.Ns1 dx mA
 ne:dx≠x
structure Cls (K:Qb) (C:Addr):Prop where
 pg:PySem.W.plainGet K C Str.empty=true
 hd:PySem.W.hasDictIn K C=true
 po:PySem.W.plainOver K C=true
 sa:PySem.W.findIn K (.ref C) "__setattr__"=some (some (.builtin "object.__setattr__"))
def qQ9 (K:Qb) (C:Addr) (f:Str):Prop:=PySem.W.findIn K (.ref C) f=some none
structure Con (K:Qb) (C:Addr) (f:Str) (v:V) (u:Value):Prop where
 at_:PySem.W.findIn K (.ref C) f=some (some u)
 rel:RelV v u
 get:PySem.W.specialIn K u "__get__"=some none
 cp:PySem.W.copiedNames.contains f=false
structure Meth (K:Qb) (C:Addr) (m:Str) (f:Addr):Prop where
 at_:PySem.W.findIn K (.ref C) m=some (some (.ref f))
 fn:PySem.W.isFn K (.ref f)=true
 kp:PySem.W.keepIn K (.ref f)=true
section
variable {X:Cx}{pins:List (Addr×Obj)}{Z:St}{H:Hp}{s:Shared}{A:Around}{E:Value->Shared->Prop}{Q:Value->Shared->Prop}{c:Value}{b:Bool}
inductive TyOf (K:Qb) (H:Hp):V->Value->Prop where
 | non:TyOf K H .non (.type "NoneType")
 | bl (x:Bool):TyOf K H (.bl x) (.type "bool")
 | int (i:Int):TyOf K H (.int i) (.type "int")
 | str (x:Str):TyOf K H (.str x) (.type "str")
 | flt (x:UInt64):TyOf K H (.flt x) (.type "float")
 | lst {a:Addr} {xs:List V} (e:H a=some (.lst xs)):TyOf K H (.ref a) (.type "list")
 | frz {a:Addr} {o:Obj} {xs:List V} (e:H a=some (.frz o (.lst xs))):TyOf K H (.ref a) (.type "list")
 | tup {a:Addr} {xs:List V} (e:H a=some (.tup xs)):TyOf K H (.ref a) (.type "tuple")
 | dK {a:Addr} {kvs:List (dE×V)} (e:H a=some (.dK kvs)):TyOf K H (.ref a) (.type "dict")
 | dT {a:Addr} {kvs:List (List dE×V)} (e:H a=some (.dT kvs)):TyOf K H (.ref a) (.type "dict")
 | ins {a C dx:Addr} {fs:List (Str×V)} (e:H a=some (.ins C dx fs)) (cl:Cls K C) (ha:PySem.W.findIn K (.ref C) "__class__"=some (some (.builtin "object.__class__")))
   (hn:PySem.W.specialIn K (.builtin "object.__class__") "__get__"=some (some (.builtin "getset_descriptor.__get__"))) (htk:PySem.W.takesIn K (.builtin "object.__class__")=some true)
   (hm:PySem.W.mroIn K C (.type "object")=some true):TyOf K H (.ref a) (.ref C)
end
end L2
namespace L2
open PySem PySem.Spec PyProof.Rows
structure Room (k:Nat) (A:Around):Prop where
 hd:A.handled=none
 dp:A.depth+3 * k+5<recursionLimit
 un:A.units+16 * k+200<cLine
theorem Room.deeper {k:Nat}{A:Around}(r:Room (k+1) A) (env:Env):Room k (A.deeper env):=
 ⟨r.hd,by have:=r.dp;show A.depth+1+3 * k+5<_;omega,by have:=r.un;show A.units+3+16 * k+200<_;omega⟩
theorem Room.depth {k:Nat}{A:Around}(r:Room k A):A.depth<recursionLimit:=by have:=r.dp;omega
theorem Room.units {k:Nat}{A:Around}(r:Room k A):A.units+64<cLine:=by have:=r.un;omega
noncomputable def vQ:TA:=λ_ H Q=>Q [] H
noncomputable def wR (ta:TE) (tr:TA):TA:=fun Z H Q=>ta Z H λx H1=>tr Z H1 λxs H2=>Q (x::xs) H2
section
variable {X:Cx}{e:Expr}{es:List Expr}{te:TE}{t:TA}{pos:Pos}
theorem il:PA X [] vQ:=λ_ _ _ _ H Q I h=>Calls.spliced_nil ⟨[],H,I,.nil,h⟩
theorem fL (ha:PE X e te) (hr:PA X es t) (hs:starEach (e::es) X.env=(false,eval e X.env)::starEach es X.env:=by rfl):PA X (e::es) (wR te t):=by
 intro pos pins s Z H Q I h
 rw [hs]
 show wpAny _ _ (spliced ((false,eval e X.env)::backTo pos (starEach es X.env))) _ _ s
 refine Calls.spliced_cons (aw (ha pins s Z H _ I h) λu s1 ⟨x,H1,I1,r1,q1⟩=>?_)
 exact aw (hr pos pins s1 Z H1 _ I1 q1) λus s2 ⟨xs,H2,I2,r2,q2⟩=>⟨x::xs,H2,I2,.cons r1 r2,q2⟩
def qTg (t:TA):TE:=fun Z H Q=>t Z H λxs H1=>xs.length<=sizeLine/\∀p,H1 p=none->Q (.ref p) (av H1 p (.tup xs))
def qTl (t:TA):TE:=fun Z H Q=>t Z H λxs H1=>xs.length<=sizeLine/\∀p,H1 p=none->Q (.ref p) (av H1 p (.lst xs))
theorem qPH {x1}(h:PA X es t):PE X (.Tuple es x1 pos) (qTg t):=by
 intro pins s Z H Q I hq
 refine wpAny_Tuple_spliced (aw (h pos pins s Z H _ I hq) λus s1 ⟨xs,H1,I1,r,z,q⟩=>⟨by rw [<-r.length];exact z,?_⟩)
 have hf:H1 s1.heap.objs.size=none:=I1.hok.fresh (ar _)
 refine⟨.ref s1.heap.objs.size,av H1 s1.heap.objs.size (.tup xs),I1.laid (t':=s1.toks) (λb u e=>Qg _ e) (ar _) ?_,rfl,q _ hf⟩
 exact⟨z,us,r,⟨_,Qh _ rfl,rfl,_,rfl⟩⟩
theorem qPM (h:PA X es t):PE X (.List es pos) (qTl t):=by
 intro pins s Z H Q I hq
 refine wpAny_List_spliced (aw (h pos pins s Z H _ I hq) λus s1 ⟨xs,H1,I1,r,z,q⟩=>⟨by rw [<-r.length];exact z,?_⟩)
 have hf:H1 s1.heap.objs.size=none:=I1.hok.fresh (ar _)
 refine⟨.ref s1.heap.objs.size,av H1 s1.heap.objs.size (.lst xs),I1.laid (t':=s1.toks) (λb u e=>Qg _ e) (ar _) ?_,rfl,q _ hf⟩
 exact⟨z,us,0,r,Qh _ rfl⟩
end
abbrev Sp:=List V->Hp->VK->XK->Prop
abbrev g0:=List Env->Hp->Shared->XK->Value->Shared->Prop
structure Env0 (P:Program) (w:World) (K:Qb) (mg:Str->Option Value) (base:Heap) (A:Around) (outer:List Env) (s:Shared) (H:Hp):Prop where
 frames:A.frames=some outer
 mod:Mod K mg base
 bs:∀b o,base.get? b=some o->s.heap.get? b=some o/\H b=none
 bsz:base.objs.size<=s.heap.objs.size
 funs:s.heap.FunFrames base outer
 frf:∀b∈eT outer,H b=none
 hok:HOk P w H s.heap
 bare:AllBare s.gens
def CE (outer:List Env) (P:Program) (w:World) (H:Hp) (s:Shared) (Q:VK) (u:Value) (s':Shared):Prop:=
 ∃v H',s'.os=s.os/\AllBare s'.gens/\Un (eT outer) [] H H' s.heap s'.heap/\HOk P w H' s'.heap/\RelV v u/\Q v H'
def CR (CX:g0) (outer:List Env) (P:Program) (w:World) (H:Hp) (s:Shared) (Q:VK) (E:XK) (r:Result) (s':Shared):Prop:=
 match r with
 | .ok (.ret u)=>CE outer P w H s Q u s'
 | .ok _=>False
 | .error e=>CX outer H s E e s'
structure FnOk (P:Program) (w:World) (K:Qb) (mg:Str->Option Value) (base:Heap) (CX:g0) (k:Nat) (f:Addr) (fd:FuncData) (ps:List Str) (sp:Sp):Prop where
 len:∀vs H Q E,sp vs H Q E->vs.length=ps.length
 run:∀(A:Around) (outer:List Env) (s:Shared) (H:Hp) (args:Args) (us:List Value) (vs:List V) (Q:VK) (E:XK),Room k A->Env0 P w K mg base A outer s H->BindsTo s fd args (ps.zip us)->Vals vs us->sp vs H Q E ->
  codeAny (model P w) A (.call (.ref f) args) (CR CX outer P w H s Q E) s
section
variable {X:Cx}{pins:List (Addr×Obj)}{Z:St}{H:Hp}{s s':Shared}
theorem Inv.env0 (I:Inv X pins Z H s):Env0 X.prog X.w X.K X.mg X.base X.A X.stack s H:=
 ⟨I.ok.frames,I.ok.mod,I.bs,aM I.ok.bsz I.sz,I.stack,I.stkFree,I.hok,I.bare⟩
theorem Inv.after {Q:VK}{u:Value}(I:Inv X pins Z H s) (h:CE X.stack X.prog X.w H s Q u s'):EP X pins Z Q u s':=by
 obtain⟨v,H',os,bare,un,hok,r,q⟩:=h
 obtain⟨hh,g,d,t,os'⟩:=s'
 obtain rfl:os'=s.os:=os
 exact⟨v,H',I.call (h':=hh) (g':=g) (d':=d) (t':=t) (ch:=[]) un hok bare (λb z=>Qn z (by simp)),r,q⟩
end
noncomputable def qRM (sp:Sp) (dvs:List V) (E:XK) (t:TA):TE:=fun Z H Q=>t Z H λvs H1=>sp (vs++dvs) H1 Q E
def Binds (K:Qb) (fd:FuncData) (ps:List Str) (ds:List Value):Prop:=
 ∀(s:Shared) (us:List Value),K.In s.heap->(us++ds).length=ps.length->BindsTo s fd ⟨us,[]⟩ (ps.zip (us++ds))
theorem Binds.all {K:Qb}{fd:FuncData}{ps:List Str}(h:∀us:List Value,us.length=ps.length->bindArgs fd ⟨us,[]⟩=pure (ps.zip us)):Binds K fd ps []:=λs us _ hl=>by
 rw [cL] at hl ⊢
 exact .of_eq (h us hl)
def rX (CX:g0) (X:Cx) (E:XK):Prop:=∀(pins:List (Addr×Obj)) (Z:St) (H:Hp) (s:Shared) (e:Value) (s':Shared),Inv X pins Z H s->CX X.stack H s E e s'->X.xe e s'
section
variable {X:Cx}{CX:g0}{k:Nat}{f C:Addr}{fd:FuncData}{ps:List Str}{sp:Sp}{dvs:List V}{ds:List Value}{E:XK}{x m:Str}{p pos apos:Pos}{e o:Expr}{es:List Expr}{ta:TE}{t:TA}
theorem qPo {pins:List (Addr×Obj)}{Z:St}{H:Hp}{s:Shared}{Q:VK}{us:List Value}{vs:List V}(F:FnOk X.prog X.w X.K X.mg X.base CX k f fd ps sp) (hr:Room k X.A) (hb:Binds X.K fd ps ds) (hd:Vals dvs ds) (hx:rX CX X E)
  (I:Inv X pins Z H s) (r:Vals vs us) (h:sp (vs++dvs) H Q E):wpAny (model X.prog X.w) X.A (call (.ref f) us) (EP X pins Z Q) X.xe s:=by
 have r2:Vals (vs++dvs) (us++ds):=r.append hd
 have hl:(us++ds).length=ps.length:=by rw [<-r2.length];exact F.len _ _ _ _ h
 refine wpAny_call (codeAny_mono (F.run X.A X.stack s H ⟨us,[]⟩ (us++ds) (vs++dvs) Q E hr I.env0 (hb s us I.kIn hl) r2 h) λr s' hq=>?_)
 cases r with
 | error e=>exact hx pins Z H s e s' I hq
 | ok fl =>
  cases fl with
  | ret u=>exact I.after hq
  | next=>exact False.elim hq
  | brk=>exact False.elim hq
  | cont=>exact False.elim hq
theorem yH (F:FnOk X.prog X.w X.K X.mg X.base CX k f fd ps sp) (hr:Room k X.A) (hg:Gl X x) (hm:X.mg x=some (.ref f)) (hk:PySem.W.keepIn X.K (.ref f)=true) (hb:Binds X.K fd ps ds) (hd:Vals dvs ds) (hx:rX CX X E)
  (ha:PA X (e::es) t) (hdb:(x == ("__debug__":Str))=false:=by decide) (he:starEach (e::es) X.env=(false,eval e X.env)::starEach es X.env:=by rfl) (hpl:(backTo pos (starEach es X.env)).any (·.1)=false:=by rfl) :
  PE X (.Call (.Name x p) (e::es) [] pos) (qRM sp dvs E t):=by
 intro pins s Z H Q I h
 refine wpAny_Call_Name_kw (sR I hg hm ?_ hdb)
 refine PySem.W.callWith_K (h₀:=X.base) I.ok.mod.kin hk (aw (ha pos pins s Z H _ I h) λus s1 ⟨vs,H1,I1,r,q⟩=>⟨I1.kIn,?_⟩) he hpl
 exact qPo F hr hb hd hx I1 r q
structure Mk (K:Qb) (C f:Addr):Prop where
 makes:PySem.W.makesIn K C=true
 init:PySem.W.findIn K (.ref C) "__init__"=some (some (.ref f))
 fn:PySem.W.isFn K (.ref f)=true
 kp:PySem.W.keepIn K (.ref C)=true
end
section
variable {X:Cx}{CX:g0}{k:Nat}{f C:Addr}{fd:FuncData}{ps ks:List Str}{sp:Sp}{E:XK}{x m:Str}{p pos apos kpos:Pos}{e o:Expr}{es:List Expr}{kws:List Keyword}{te ta:TE}{t tk:TA}{nm:Option Str}
structure KBinds (K:Qb) (fd:FuncData) (ps ks:List Str) (g:List Value->List Value->List Value) (gV:List V->List V->List V):Prop where
 to:∀(s:Shared) (us ws:List Value),K.In s.heap->(g us ws).length=ps.length->BindsTo s fd ⟨us,ks.zip ws⟩ (ps.zip (g us ws))
 rel:∀{vs:List V} {us:List Value} {zs:List V} {ws:List Value},Vals vs us->Vals zs ws->Vals (gV vs zs) (g us ws)
variable {g:List Value->List Value->List Value}{gV:List V->List V->List V}
end
structure FnScope (N P:List Str) (sc:Scope):Prop where
 kind:sc.kind=.function
 co:sc.isCoroutine=false
 gen:sc.isGenerator=false
 nd:N.Nodup
 pre:N.take P.length=P
 par:∀x∈P,sc.names.lookup x=some .local∨sc.names.lookup x=some .cell
 nofree:∀y∈sc.names,y.2≠.free
theorem zU {kindOf:Str->Option NameKind}{x:Str}:∀{binds:List (Str×Value)}{m:Str->Option Value},(∀v,(x,v)∉binds)->bindL kindOf binds m x=m x
 | [],_,_=>rfl
 | (n,v)::r,m,h=>by
  unfold bindL
  rw [zU λw hw=>h w (bC _ hw)]
  split
  ·have:x≠n:=by rintro rfl;exact h v bh
   simp [this]
  ·rfl
theorem Aj {kindOf:Str->Option NameKind}{x:Str}:∀{binds:List (Str×Value)}{m:Str->Option Value},(∀v,(x,v)∉binds)->bindC kindOf binds m x=m x
 | [],_,_=>rfl
 | (n,v)::r,m,h=>by
  unfold bindC
  rw [Aj λw hw=>h w (bC _ hw)]
  split
  ·rfl
  ·have:x≠n:=by rintro rfl;exact h v bh
   simp [this]
theorem Ak {kindOf:Str->Option NameKind}{x:Str}{v:Value}:∀{P:List Str}{vs:List Value}{i:Nat}{m:Str->Option Value},P.Nodup->P[i]?=some x->vs[i]?=some v->kindOf x=some .local ->
  bindL kindOf (P.zip vs) m x=some v
 | [],_,_,_,_,h,_,_=>by simp at h
 | _::_,[],_,_,_,_,h,_=>by simp at h
 | p::P,w::vs,0,m,nd,h1,h2,hk=>by
  simp at h1 h2;subst h1;subst h2
  show bindL kindOf ((p,w)::P.zip vs) m p=_
  unfold bindL
  rw [zU λv hv=>(ybv.mp nd).1 (lZ hv).1,Ql hk]
  simp
 | p::P,w::vs,i+1,m,nd,h1,h2,hk=>by
  show bindL kindOf ((p,w)::P.zip vs) m x=_
  unfold bindL
  exact Ak (i:=i) (ybv.mp nd).2 (by simpa using h1) (by simpa using h2) hk
theorem Ai {kindOf:Str->Option NameKind}{x:Str}{v:Value}:∀{P:List Str}{vs:List Value}{i:Nat}{m:Str->Option Value},P.Nodup->P[i]?=some x->vs[i]?=some v->kindOf x≠some .local ->
  bindC kindOf (P.zip vs) m x=some v
 | [],_,_,_,_,h,_,_=>by simp at h
 | _::_,[],_,_,_,_,h,_=>by simp at h
 | p::P,w::vs,0,m,nd,h1,h2,hk=>by
  simp at h1 h2;subst h1;subst h2
  show bindC kindOf ((p,w)::P.zip vs) m p=_
  unfold bindC
  rw [Aj λv hv=>(ybv.mp nd).1 (lZ hv).1,Qm hk]
  simp
 | p::P,w::vs,i+1,m,nd,h1,h2,hk=>by
  show bindC kindOf ((p,w)::P.zip vs) m x=_
  unfold bindC
  exact Ai (i:=i) (ybv.mp nd).2 (by simpa using h1) (by simpa using h2) hk
noncomputable def start (N:List Str) (vs:List V):St:=vs.map some++List.replicate (N.length - vs.length) none
def i7 (CX:g0) (P:Program) (w:World) (K:Qb) (mg:Str->Option Value) (base:Heap) (N:List Str) (qual:Str) (scope:Scope) (f:Addr) (cd:Value) (A:Around) (outer:List Env) (s:Shared) (H:Hp) (E:XK):Cx where
 prog:=P
 w:=w
 K:=K
 mg:=mg
 base:=base
 A:=A.deeper (envOfC qual scope s.heap.objs.size f cd)
 N:=N
 s₀:=s
 H₀:=H
 env:=envOfC qual scope s.heap.objs.size f cd
 outer:=outer
 stack:=envOfC qual scope s.heap.objs.size f cd::outer
 ex:=[]
 calm:=true
 fn:=λ_=>true
 pn:=[]
 xe:=λe s'=>wpAny (model P w) (A.deeper (envOfC qual scope s.heap.objs.size f cd)) (leaving (envOfC qual scope s.heap.objs.size f cd) e) (λ_ s''=>CX outer H s E e s'') (λe' s''=>CX outer H s E e' s'') s'
theorem yW {sc:Scope}{n:Nat}{x:Str}(h:sc.names.lookup x=some .cell):∃c,(cellsFrom n sc.names []).lookup x=some c:=by
 have q:=PySem.W.cellsFrom_some sc.names n [] (.inl h)
 exact Option.isSome_iff_exists.mp q
theorem qIh {CX:g0}{P:Program}{w:World}{K:Qb}{mg:Str->Option Value}{base:Heap}{N ps:List Str}{qual:Str}{scope:Scope}{f:Addr}{cd:Value}{A:Around}{outer:List Env}{s s1:Shared}{H:Hp}{E:XK}{us:List Value}{vs:List V}
  (S:FnScope N ps scope) (hd:A.handled=none) (e0:Env0 P w K mg base A outer s H) (hl:vs.length=ps.length) (r:Vals vs us)
  (x:InCallC s s.heap.objs.size (bindL (envOfC qual scope s.heap.objs.size f cd).kindOf (ps.zip us) λ_=>none) (cellsFrom (s.heap.objs.size+1) scope.names []) (bindC (envOfC qual scope s.heap.objs.size f cd).kindOf (ps.zip us) λ_=>none) s1) :
  Inv (i7 CX P w K mg base N qual scope f cd A outer s H E) [] (start N vs) H s1:=by
 have hpl:ps.length<=N.length:=by have:=congrArg List.length S.pre;rw [eL] at this;omega
 obtain⟨h1,tk,rfl,hk⟩:=x.done
 have noA:∀b:Addr,b∉(i7 CX P w K mg base N qual scope f cd A outer s H E).ex:=λb z=>Qn (show b∈([]:List Addr) from z) (by simp)
 refine⟨⟨e0.mod,S.kind,rfl,rfl,ar _,λy z c h1 h2=>?_,λy hy=>?_,λy c _ h=>?_,λ_=>hd,Around.frames_deeper e0.frames,.inr ⟨rfl,rfl⟩,λb z=>Qn z (noA b),e0.bs,e0.bsz,λb _ _=>noA b,λb z=>Qn z (noA b),e0.funs,e0.frf⟩,
  rfl,e0.bare,Un.kept hk,⟨_,x.toInCall.ns,λi y v h1 h2 h3=>?_⟩,λy c h=>⟨_,x.cell y c h⟩,e0.hok.fresh (ar _),λy c h=>?_,λp hp=>Qn (show p∈([]:List (Addr×Obj)) from hp) (by simp),e0.hok.kept hk,?_⟩
 ·exact name_of_addr x.apart (dg h1) (dg h2)
 ·have hy:scope.names.lookup y=some .cell∨scope.names.lookup y=some .free:=hy
  rcases hy with hy|hy
  ·exact yW hy
  ·exact Qn rfl (S.nofree _ (dg hy))
 ·exact fb (x.above y c (dg h))
 ·have hi:i<vs.length:=by
   unfold start at h2
   by_cases hi:i<vs.length
   ·exact hi
   ·rw [gE (by simpa using hi)] at h2
    rw [kA] at h2
    split at h2<;>cases h2
  have ha:vs[i]?=some v:=by
   unfold start at h2
   rw [jq (by simpa using hi),cu] at h2
   cases e:vs[i]? with
   | none=>rw [e] at h2;cases h2
   | some a=>rw [e] at h2;cases h2;rfl
  obtain⟨u,hu,rv⟩:=r.get ha
  have hp:ps[i]?=some y:=by
   rw [<-S.pre,List.getElem?_take_of_lt (by omega)];exact h1
  have ndP:ps.Nodup:=by rw [<-S.pre];exact S.nd.sublist (List.take_sublist _ _)
  refine⟨u,rv,?_⟩
  rcases S.par y (cj hp) with k|k
  ·exact .inl ⟨k,Ak ndP hp hu k⟩
  ·obtain⟨c,e⟩:=yW (n:=s.heap.objs.size+1) k
   refine .inr ⟨.inl k,c,e,?_⟩
   have q:=x.cell y c e
   rw [Ai ndP hp hu (by show scope.names.lookup y≠_;rw [k];decide)] at q
   exact q
 ·exact e0.hok.fresh (fb (x.above y c (dg h)))
 ·unfold start
  show _=N.length
  rw [bf,aC,qN]
  omega
theorem wy {CX:g0}{P:Program}{w:World}{K:Qb}{mg:Str->Option Value}{base:Heap}{k:Nat}{f:Addr}{name qual:Str}{params:Arguments}{body:List Stmt}{scope:Scope}{dV kV doc pm cdv ct oc:Value}{an od:Option Addr}
  {osl:Array (Option Value)} {N ps:List Str} {sp:Sp} (lk:K.lookup f=some ⟨oc,od,.func (PySem.W.fnOf name qual params body scope dV kV doc pm an cdv ct),osl⟩) (hcd:PySem.W.codeIn K cdv qual=true) (S:FnScope N ps scope)
  (len:∀vs H Q E,sp vs H Q E->vs.length=ps.length)
  (hbody:∀(A:Around) (outer:List Env) (s:Shared) (H:Hp) (vs:List V) (Q:VK) (E:XK),Room k (A.deeper (envOfC qual scope s.heap.objs.size f cdv))->sp vs H Q E ->
   ∃t,PSs (i7 CX P w K mg base N qual scope f cdv A outer s H E) body t/\t { nx:=λ_ H'=>Q .non H',rt:=Q } (start N vs) H) :
  FnOk P w K mg base CX (k+1) f (PySem.W.fnOf name qual params body scope dV kV doc pm an cdv ct) ps sp:=by
 refine⟨len,λA outer s H args us vs Q E hr e0 hb r hsp=>?_⟩
 have hl:=len _ _ _ _ hsp
 have KX:K.In s.heap:=e0.mod.kin.keeps λb o e=>(e0.bs b o e).1
 have lim:s.heap.NoLimit:=e0.mod.nolimit.keeps λb o e=>(e0.bs b o e).1
 have hkind:∀y∈ps.zip us,scope.names.lookup y.1=some .local∨(scope.names.lookup y.1=some .cell/\((cellsFrom (s.heap.objs.size+1) scope.names []).lookup y.1).isSome=true):=λ⟨n,v⟩ hy=>by
  rcases S.par n (lZ hy).1 with q|q
  ·exact .inl q
  ·exact .inr ⟨q,PySem.W.cellsFrom_some _ _ _ (.inl q)⟩
 refine codeAny_call_function hr.depth (KX _ _ lk) rfl S.co S.gen rfl (PySem.W.codeRec_of KX hcd) (hb _ _ _ _ ?_)
 refine wpAny_newFunctionEnv_cells S.kind hkind λenv he s1 x=>?_
 subst he
 refine⟨lim.keeps x.toInCall.keep,codeAny_func ?_⟩
 obtain⟨t,ht,hq⟩:=hbody A outer s H vs Q E (hr.deeper _) hsp
 have I:Inv (i7 CX P w K mg base N qual scope f cdv A outer s H E) [] (start N vs) H s1:=qIh S hr.hd e0 hl r x
 refine Qe (ht [] s1 (start N vs) H _ I hq) (λfl s' hs=>?_) λe s' hs=>hs
 have fin:∀{Z':St} {H':Hp} {v:V} {u:Value},Inv (i7 CX P w K mg base N qual scope f cdv A outer s H E) [] Z' H' s'->RelV v u->Q v H'->CE outer P w H s Q u s':=
  λ{Z' H' v u} J rv q=>⟨v,H',J.os,J.bare,J.base,J.hok,rv,q⟩
 cases fl with
 | ret u =>
  obtain⟨v,Z',H',J,rv,q⟩:=hs
  exact fin J rv q
 | next =>
  obtain⟨Z',H',J,q⟩:=hs
  exact fin (v:=V.non) (u:=Value.none) J rfl q
 | brk =>
  obtain⟨_,_,_,q⟩:=hs
  exact False.elim q
 | cont =>
  obtain⟨_,_,_,q⟩:=hs
  exact False.elim q
end L2
namespace L2
open PySem PySem.Spec PyProof.Rows
section
variable {X:Cx}{x:Str}{p pos:Pos}{e:Expr}{es:List Expr}{t:TA}{id T:String}{r:List V->Hp->VK->Prop}
noncomputable def u9 (r:List V->Hp->VK->Prop) (t:TA):TE:=fun Z H Q=>t Z H λvs H1=>r vs H1 Q
theorem zt (hc:CallR X (.builtin id) r) (hg:Gl X x) (hm:X.mg x=none) (hv:Qo x=some (.builtin id)) (ha:PA X (e::es) t) (hn:x≠"__name__":=by decide) (hdb:(x == ("__debug__":Str))=false:=by decide)
  (he:starEach (e::es) X.env=(false,eval e X.env)::starEach es X.env:=by rfl) (hpl:(backTo pos (starEach es X.env)).any (·.1)=false:=by rfl):PE X (.Call (.Name x p) (e::es) [] pos) (u9 r t):=by
 intro pins s Z H Q I h
 refine wpAny_Call_Name_kw (ik I hg hm hv ?_ hn hdb)
 exact PyProof.Rows.callWith_builtin1 (aw (ha pos pins s Z H _ I h) λus s1 ⟨vs,H1,I1,r1,q1⟩=>hc pins s1 Z H1 vs us Q I1 r1 q1) he hpl
theorem qHT (hc:CallR X (.type T) r) (hg:Gl X x) (hm:X.mg x=none) (hv:Qo x=some (.type T)) (ha:PA X (e::es) t) (hn:x≠"__name__":=by decide) (hdb:(x == ("__debug__":Str))=false:=by decide)
  (he:starEach (e::es) X.env=(false,eval e X.env)::starEach es X.env:=by rfl) (hpl:(backTo pos (starEach es X.env)).any (·.1)=false:=by rfl):PE X (.Call (.Name x p) (e::es) [] pos) (u9 r t):=by
 intro pins s Z H Q I h
 refine wpAny_Call_Name_kw (ik I hg hm hv ?_ hn hdb)
 exact iV (aw (ha pos pins s Z H _ I h) λus s1 ⟨vs,H1,I1,r1,q1⟩=>hc pins s1 Z H1 vs us Q I1 r1 q1) he hpl
end
end L2
namespace HT
open PySem PyProof.Rows
section
variable {prog:Program}{w:World}{A:Around}{E:Value->Shared->Prop}{s:Shared}
theorem cat_tup {t b:Addr}{vs ws:List Value}{Q:Value->Shared->Prop}(ht:IsTup s.heap t vs.toArray) (hb:IsTup s.heap b ws.toArray) (hv:vs≠[])
  (h1:ws=[]->Q (.ref t) s) (h2:ws≠[]->Q (.ref s.heap.objs.size) { s with heap:=s.heap.push { cls:=.type "tuple",data:=.seq (vs++ws).toArray } })
  (hsz:vs.length+ws.length<=sizeLine):wpAny (model prog w) A (binaryOp .Add (.ref t) (.ref b)) Q E s:=by
 obtain⟨⟨cls,dd,data,sl⟩,ho,hc,n,hd⟩:=id ht
 obtain⟨⟨cls2,dd2,data2,sl2⟩,ho2,hc2,n2,hd2⟩:=id hb
 simp only at hc hd hc2 hd2
 subst hc hd hc2 hd2
 have e:vs.toArray++ws.toArray=(vs++ws).toArray:=by simp
 by_cases hw:ws=[]
 ·exact concat_meets ⟨_,ho,rfl⟩ ⟨_,ho2,rfl⟩ noFill_tuple_add seq_tuple_add qO qQ (qS _ _)
   (tuple_addW1 t b vs.toArray ws.toArray n n2 dd dd2 sl sl2 (by simpa using hv) (by simp [hw])) ⟨ho,ho2,h1 hw⟩
 ·refine concat_meets ⟨_,ho,rfl⟩ ⟨_,ho2,rfl⟩ noFill_tuple_add seq_tuple_add qO qQ (qS _ _)
   (tuple_addW2 t b vs.toArray ws.toArray n n2 dd dd2 sl sl2 (by simpa using hv) (by simpa using hw) (by rw [aH,aH];exact hsz)) ⟨ho,ho2,?_⟩
  rw [e]
  exact h2 hw
noncomputable def sIx (n d:Nat):Option Int->Nat
 | none=>d
 | some v=>if v<0 then (v+(n:Int)).toNat else min v.toNat n
theorem qPn (n d:Nat) (hd:d<=n) (o:Option Int):sIx n d o<=n:=by
 cases o with
 | none=>exact hd
 | some v =>
  show (if v<0 then (v+(n:Int)).toNat else min v.toNat n)<=n
  by_cases hv:v<0
  ·rw [Ql hv];omega
  ·rw [Qm hv];exact Nat.min_le_right _ _
theorem clip_eq (v:Int) (n d:Nat):(if v<0 then max (v+(n:Int)) 0 else min v (n:Int))=((sIx n d (some v):Nat):Int):=by
 show (if v<0 then max (v+(n:Int)) 0 else min v (n:Int))=(((if v<0 then (v+(n:Int)).toNat else min v.toNat n):Nat):Int)
 by_cases hv:v<0
 ·simp only [Ql hv];omega
 ·simp only [Qm hv];omega
theorem qGY (lo hi:Option Int) (n:Nat):Builtin.Slice.sliceAdjust lo hi 1 (n:Int)=(((sIx n 0 lo:Nat):Int),((sIx n n hi:Nat):Int)):=by
 have h1:¬((1:Int)<0):=by omega
 unfold Builtin.Slice.sliceAdjust
 simp only [h1,if_false]
 refine Prod.ext ?_ ?_
 ·cases lo with
  | none=>rfl
  | some v=>exact clip_eq v n 0
 ·cases hi with
  | none=>rfl
  | some v=>exact clip_eq v n n
theorem qGH (i j:Nat):Builtin.Slice.slicePlaces (i:Int) (j:Int) 1=j - i:=by
 unfold Builtin.Slice.slicePlaces
 have h1:(1:Int) > 0:=by omega
 simp only [h1,if_true,Int.ediv_one]
 split<;>omega
theorem Aq {v:Value}{o:Option Int}{Q:Option Int->Shared->Prop}(p:IsPart v o) (h:Q o s):wpAny (model prog w) A (Builtin.Slice.slicePartIndex v) Q E s:=by
 cases p with
 | none=>exact slicePart_none h
 | int i t=>exact slicePart_int h
theorem AH {sl:Addr}{vl vu:Value}{lo hi:Option Int}{n:Nat}{Q:Int×Int×Nat->Shared->Prop}(hs:s.heap.IsSliceOf sl vl vu .none) (pl:IsPart vl lo) (pu:IsPart vu hi)
  (h:Q (((sIx n 0 lo:Nat):Int),1,sIx n n hi - sIx n 0 lo) s):wpAny (model prog w) A (Builtin.Slice.sliceApplied (.ref sl) (pure (n:Int))) Q E s:=by
 obtain⟨os,hos,hcs,hds⟩:=id hs
 unfold Builtin.Slice.sliceApplied Builtin.Slice.sliceFields
 refine Qc (Qc (Qf hos hds (x:=vl) rfl (Qc (Qf hos hds (x:=vu) rfl (Qc (Qf hos hds (x:=.none) rfl (Qd ?_)))))))
 refine Qc (slicePart_none ?_)
 show wpAny _ _ (if ((1:Int) == 0)=true then _ else _) _ _ s
 rw [Qm (by decide)]
 refine Qc (Aq pl (Qc (Aq pu (Qc (Qd ?_)))))
 show wpAny _ _ (match Builtin.Slice.sliceAdjust lo hi 1 (n:Int) with|(lo,hi)=>pure (lo,(1:Int),Builtin.Slice.slicePlaces lo hi 1)) _ _ s
 rw [qGY lo hi n]
 show wpAny _ _ (pure (((sIx n 0 lo:Nat):Int),(1:Int),Builtin.Slice.slicePlaces ((sIx n 0 lo:Nat):Int) ((sIx n n hi:Nat):Int) 1)) _ _ s
 rw [qGH]
 exact Qd h
theorem qKc (xs:Array Value) (i k:Nat):((List.range k).filterMap λ(m:Nat)=>xs[((i:Int)+(m:Int) * 1).toNat]?).toArray=((xs.toList.drop i).take k).toArray:=by
 have e:(λ(m:Nat)=>xs[((i:Int)+(m:Int) * 1).toNat]?)=λm=>xs[i+m]?:=by
  funext m
  have:((i:Int)+(m:Int) * 1).toNat=i+m:=by omega
  rw [this]
 rw [e]
 have:=pick_run xs i k
 rw [List.filterMap_map] at this
 have e2:((λx=>xs[x]?) ∘ λx=>i+x)=λm=>xs[i+m]?:=rfl
 rw [e2] at this
 rw [this]
theorem getItem_tuple_cut {t sl:Addr}{items:Array Value}{vl vu:Value}{lo hi:Option Int}{Q:Value->Shared->Prop}(ht:IsTup s.heap t items) (hs:s.heap.IsSliceOf sl vl vu .none) (pl:IsPart vl lo) (pu:IsPart vu hi)
  (hw:¬(sIx items.size 0 lo=0/\sIx items.size items.size hi=items.size))
  (h:Q (.ref s.heap.objs.size) { s with heap:=s.heap.push { cls:=.type "tuple",data:=.seq ((items.toList.drop (sIx items.size 0 lo)).take (sIx items.size items.size hi - sIx items.size 0 lo)).toArray } })
  (hsz:items.size<=sizeLine):wpAny (model prog w) A (getItem (.ref t) (.ref sl)) Q E s:=by
 have htake:sizeOk (.seq ((items.toList.drop (sIx items.size 0 lo)).take (sIx items.size items.size hi - sIx items.size 0 lo)).toArray):=by
  show ((items.toList.drop (sIx items.size 0 lo)).take (sIx items.size items.size hi - sIx items.size 0 lo)).toArray.size<=sizeLine
  rw [aH,eL,hJ,cw]
  omega
 have hj:sIx items.size items.size hi<=items.size:=qPn _ _ (ar _) hi
 obtain⟨os,hos,hcs,hds⟩:=id hs
 have hTs:s.TypeIs (.ref sl) "slice":=⟨os,hos,hcs⟩
 unfold getItem
 try with_reducible refine wpAny_holding ?_
 first|refine Qc (Qd ?_)|skip
 refine Qc (wpAny_sequenceKey ht.typeIs (by decide) ?_)
 refine Qc (wpAny_callSpecial?_slot (name:=Qa "__getitem__") ht.typeIs yaO
  (wpAny_call_entry yaO ht.typeIs entry_tuple_getitem ?_ (args_tuple_getitem _ _)))
 show wpAny _ _ (Builtin.Tuple.tupleItemsOf (.ref t) >>= _) _ _ s
 refine Qc (tupleItemsOf_ ht ?_)
 refine Qc (wpAny_typeOf hTs ?_)
 rw [Ql (by decide)]
 refine Qc (AH hs pl pu ?_)
 have hno:¬((((sIx items.size 0 lo:Nat):Int) == 0&&(1:Int) == 1&&(sIx items.size items.size hi - sIx items.size 0 lo) == items.size)=true):=by
  intro q
  rw [aI,aI] at q
  have q1:((sIx items.size 0 lo:Nat):Int)=0:=eq_of_beq q.1.1
  have q2:sIx items.size items.size hi - sIx items.size 0 lo=items.size:=eq_of_beq q.2
  exact hw ⟨by omega,by omega⟩
 show wpAny _ _ (if (((sIx items.size 0 lo:Nat):Int) == 0&&(1:Int) == 1&&(sIx items.size items.size hi - sIx items.size 0 lo) == items.size)=true then _ else _) _ _ s
 rw [Qm hno,qKc]
 first
  | exact Qc (m:=Builtin.Tuple.tupleExact _) (wpAny_newObj_type (Qd ⟨_,rfl,Qd h⟩) htake)
  | exact Qc (m:=Builtin.Tuple.tupleExact _) (wpAny_newObj_type (Qc (Qd (Qd ⟨_,rfl,Qd h⟩))) htake)
  | exact Qc (Qc (m:=Builtin.Tuple.tupleExact _) (wpAny_newObj_type (Qd (Qd ⟨_,rfl,Qd h⟩)) htake))
  | exact Qc (Qc (m:=Builtin.Tuple.tupleExact _) (wpAny_newObj_type (Qd ⟨_,rfl,Qd h⟩) htake))
end
end HT
namespace L2
open PySem PySem.Spec PyProof.Rows
abbrev TO:=St->Hp->(Option Int->Hp->Prop)->Prop
def PO (X:Cx) (e:Option Expr) (t:TO):Prop:=
 ∀(pins:List (Addr×Obj)) (s:Shared) (Z:St) (H:Hp) (Q:Option Int->Hp->Prop),Inv X pins Z H s->t Z H Q ->
   wpAny (model X.prog X.w) X.A (evalPart e X.env) (λu s'=>∃o H',Inv X pins Z H' s'/\IsPart u o/\Q o H') X.xe s
noncomputable def qMM:TO:=λ_ H Q=>Q none H
noncomputable def qRI (t:TE):TO:=fun Z H Q=>t Z H λx H1=>∃i,x=.int i/\Q (some i) H1
theorem qGM {ns:List Int}:∀{us:List Value},Vals (ns.map V.int) us->IntsAre us ns:=by
 induction ns with
 | nil=>intro us r;rw [List.map_nil] at r;cases r;exact .nil
 | cons n ns ih =>
  intro us r
  rw [cT] at r
  cases r with
  | cons r1 r2 =>
   obtain⟨t,e⟩:=r1
   subst e
   exact .cons n t (ih r2)
section
variable {X:Cx}{e:Expr}{te:TE}{lo hi:Option Expr}{tl th:TO}{pos p2:Pos}
theorem qNq:PO X none qMM:=by
 intro pins s Z H Q I h
 rw [evalPart_none]
 exact Qd ⟨none,H,I,.none,h⟩
theorem qNp (h:PE X e te):PO X (some e) (qRI te):=by
 intro pins s Z H Q I hw
 rw [evalPart_some]
 refine aw (h pins s Z H _ I hw) λu s1 ⟨x,H1,I1,r1,q1⟩=>?_
 obtain⟨i,rfl,q⟩:=q1
 obtain⟨t,rfl⟩:=r1
 exact⟨some i,H1,I1,.int i t,q⟩
def SlR (X:Cx) (r:V->Option Int->Option Int->Hp->VK->Prop):Prop:=
 ∀(pins:List (Addr×Obj)) (s:Shared) (Z:St) (H:Hp) (x:V) (v vl vu:Value) (lo hi:Option Int) (sl:Addr) (Q:VK),Inv X pins Z H s->RelV x v->s.heap.IsSliceOf sl vl vu .none->IsPart vl lo->IsPart vu hi->r x lo hi H Q ->
   ∃T id,typeLookup (.type T) "__getitem__"=pure (some (.builtin id))/\s.TypeIs v T/\wpAny (model X.prog X.w) X.A (getItem v (.ref sl)) (EP X pins Z Q) X.xe s
theorem SlR.or {r r':V->Option Int->Option Int->Hp->VK->Prop}(h:SlR X r) (h':SlR X r'):SlR X (λx lo hi H Q=>r x lo hi H Q∨r' x lo hi H Q):=by
 intro pins s Z H x v vl vu lo hi sl Q I rx hs pl pu q
 rcases q with q|q
 ·exact h pins s Z H x v vl vu lo hi sl Q I rx hs pl pu q
 ·exact h' pins s Z H x v vl vu lo hi sl Q I rx hs pl pu q
noncomputable def tSl (r:V->Option Int->Option Int->Hp->VK->Prop) (te:TE) (tl th:TO):TE:=fun Z H Q=>te Z H λx H1=>tl Z H1 λl H2=>th Z H2 λu H3=>r x l u H3 Q
theorem qKd {r:V->Option Int->Option Int->Hp->VK->Prop}(hr:SlR X r) (he:PE X e te) (hl:PO X lo tl) (hu:PO X hi th):PE X (.Subscript e (.Slice lo hi none p2) pos) (tSl r te tl th):=by
 intro pins s Z H Q I h
 refine Subscript_ (aw (he pins s Z H _ I h) λv s1 ⟨x,H1,I1,r1,q1⟩=>?_)
 refine wpAny_Slice (aw (hl pins s1 Z H1 _ I1 q1) λvl s2 ⟨l,H2,I2,pl,q2⟩=>aw (hu pins s2 Z H2 _ I2 q2) λvu s3 ⟨u,H3,I3,pu,q3⟩=>?_)
 rw [evalPart_none]
 refine Qd ?_
 have I4:Inv X pins Z H3 { s3 with heap:=s3.heap.push { cls:=.type "slice",data:=.fields #[vl,vu,.none] } }:=I3.kept (t':=s3.toks) λb ob q=>Qg _ q
 obtain⟨T,id,hT,ht,hg⟩:=hr pins { s3 with heap:=s3.heap.push { cls:=.type "slice",data:=.fields #[vl,vu,.none] } } Z H3 x v vl vu l u s3.heap.objs.size Q I4 r1 (Heap.IsSliceOf.new ..) pl pu q3
 show wpAny (model X.prog X.w) X.A (subscriptTail e (.Slice lo hi none p2) v (.ref s3.heap.objs.size)) (EP X pins Z Q) X.xe { s3 with heap:=s3.heap.push { cls:=.type "slice",data:=.fields #[vl,vu,.none] } }
 exact tail_any (ops:=[.ref s3.heap.objs.size,v]) ht hT hg (by with_unfolding_all rfl)
def i6 (xs:List V) (lo hi:Option Int):List V:=(xs.drop (HT.sIx xs.length 0 lo)).take (HT.sIx xs.length xs.length hi - HT.sIx xs.length 0 lo)
theorem An (xs:List V) (lo hi:Option Int):(i6 xs lo hi).length<=xs.length:=by
 unfold i6
 rw [eL,hJ]
 omega
def qTs (K:Qb):V->Option Int->Option Int->Hp->VK->Prop:=λx lo hi H Q=>∃a xs,x=.ref a/\SqT K H a xs /\
 ¬(HT.sIx xs.length 0 lo=0/\HT.sIx xs.length xs.length hi=xs.length)/\∀p,H p=none->Q (.ref p) (av H p (.tup (i6 xs lo hi)))
theorem qPj:SlR X (qTs X.K):=by
 intro pins s Z H x v vl vu lo hi sl Q I rx hs pl pu h
 obtain⟨a,xs,rfl,hx,hw,q⟩:=h
 cases rx
 obtain⟨its,r,ht,hz⟩:=I.tuple hx
 have hlen:its.toArray.size=xs.length:=by rw [aH];exact r.length.symm
 refine⟨"tuple",_,yaO.lookup,ht.typeIs,?_⟩
 refine HT.getItem_tuple_cut ht hs pl pu (by rw [hlen];exact hw) ?_ (by rw [hlen];exact hz)
 rw [hlen]
 refine⟨.ref s.heap.objs.size,_,I.laid (t':=s.toks) (o:=.tup (i6 xs lo hi)) (λb ob q=>Qg _ q) (ar _) ?_,rfl,q _ (I.hok.fresh (ar _))⟩
 exact⟨aM (An xs lo hi) hz,_,(r.drop (HT.sIx xs.length 0 lo)).take (HT.sIx xs.length xs.length hi - HT.sIx xs.length 0 lo),IsTup.new _ _⟩
def qRU (K:Qb):R2:=λx y H Q=>∃a b xs ys,x=.ref a/\y=.ref b/\SqT K H a xs/\SqT K H b ys/\xs≠[]/\xs.length+ys.length<=sizeLine /\
 (ys=[]->Q (.ref a) H)/\(ys≠[]->∀p,H p=none->Q (.ref p) (av H p (.tup (xs++ys))))
theorem Vals.nil_iff {xs:List V}{us:List Value}(r:Vals xs us):us=[]↔xs=[]:=by
 cases r with
 | nil=>simp
 | cons _ _=>simp
theorem qNC:OpR X (binaryOp .Add) (qRU X.K):=by
 intro pins s Z H x y v u Q I rx ry h
 obtain⟨a,b,xs,ys,rfl,rfl,ha,hb,hx,hz,q1,q2⟩:=h
 cases rx
 cases ry
 obtain⟨its,r1,p1,_⟩:=I.tuple ha
 obtain⟨its2,r2,p2,_⟩:=I.tuple hb
 refine HT.cat_tup p1 p2 (λz=>hx (r1.nil_iff.mp z)) (λz=>⟨.ref a,H,I,rfl,q1 (r2.nil_iff.mp z)⟩) (λz=>?_) (by rw [<-r1.length,<-r2.length];exact hz)
 refine⟨.ref s.heap.objs.size,_,I.laid (t':=s.toks) (o:=.tup (xs++ys)) (λb ob q=>Qg _ q) (ar _) ?_,rfl,q2 (λw=>z (r2.nil_iff.mpr w)) _ (I.hok.fresh (ar _))⟩
 exact⟨by rw [bf];exact hz,_,r1.append r2,IsTup.new _ _⟩
end
end L2
namespace L2
open PySem PySem.Spec PyProof.Rows
noncomputable def ixN (n:Nat) (i:Int):Option Nat:=if 0<=i then (if i<n then some i.toNat else none) else if -(n:Int)<=i then some (i+n).toNat else none
def lL {α:Type}(xs:List α) (i:Int):Option α:=(ixN xs.length i).bind λj=>xs[j]?
theorem qNV {n:Nat}{i:Int}{j:Nat}(h:ixN n i=some j):seqIndex? i n=some j/\j<n/\-(n:Int)<=i/\i<n:=by
 unfold ixN at h
 by_cases h0:0<=i
 ·rw [Ql h0] at h
  by_cases h1:i<n
  ·rw [Ql h1] at h
   have e:i.toNat=j:=fX h
   exact⟨by rw [seqIndex_of h0 h1,e],by omega,by omega,h1⟩
  ·rw [Qm h1] at h;cases h
 ·rw [Qm h0] at h
  by_cases h1:-(n:Int)<=i
  ·rw [Ql h1] at h
   have e:(i+n).toNat=j:=fX h
   exact⟨by rw [seqIndex_neg (by omega) h1,e],by omega,h1,by omega⟩
  ·rw [Qm h1] at h;cases h
theorem xR {α:Type}{xs:List α}{i:Int}{v:α}(h:lL xs i=some v):∃j,seqIndex? i xs.length=some j/\xs[j]?=some v/\j<xs.length/\-(xs.length:Int)<=i/\i<xs.length:=by
 unfold lL at h
 cases e:ixN xs.length i with
 | none=>rw [e] at h;cases h
 | some j =>
  rw [e] at h
  obtain⟨h1,h2,h3,h4⟩:=qNV e
  exact⟨j,h1,h,h2,h3,h4⟩
def pI (b:Expr):Prop:=∀o i,subscripted b false o i=operate [o,i] (getItem o i)
def IxR (X:Cx) (r:R2):Prop:=
 ∀(value slice:Expr) (pins:List (Addr×Obj)) (s:Shared) (Z:St) (H:Hp) (x y:V) (v u:Value) (Q:VK),Inv X pins Z H s->RelV x v->RelV y u->r x y H Q ->
   subscripted slice false v u=operate [v,u] (getItem v u)->wpAny (model X.prog X.w) X.A (subscriptTail value slice v u) (EP X pins Z Q) X.xe s
def BA (X:Cx) (id:String) (r:V->List V->Hp->VK->Prop):Prop:=
 ∀(pins:List (Addr×Obj)) (s:Shared) (Z:St) (H:Hp) (x:V) (xs:List V) (v:Value) (us:List Value) (Q:VK),Inv X pins Z H s->RelV x v->Vals xs us->r x xs H Q ->
   wpAny (model X.prog X.w) X.A (call (.builtin id) (v::us)) (EP X pins Z Q) X.xe s
section
variable {X:Cx}{a b:Expr}{ta tb:TE}{pos:Pos}
theorem IxR.or {r r':R2}(h:IxR X r) (h':IxR X r'):IxR X (λx y H Q=>r x y H Q∨r' x y H Q):=by
 intro value slice pins s Z H x y v u Q I rx ry q hs
 rcases q with q|q
 ·exact h value slice pins s Z H x y v u Q I rx ry q hs
 ·exact h' value slice pins s Z H x y v u Q I rx ry q hs
theorem qR2 {r:R2}(hr:IxR X r) (ha:PE X a ta) (hb:PE X b tb) (hs:pI b):PE X (.Subscript a b pos) (nX r ta tb):=by
 intro pins s Z H Q I h
 exact Subscript_ (rC ha hb I h λv u s2 x y H2 I2 rx ry q=>hr a b pins s2 Z H2 x y v u Q I2 rx ry q (hs _ _))
def qTx (K:Qb):R2:=λx y H Q=>∃p xs i v,x=.ref p/\y=.int i/\SqL K H p xs/\lL xs i=some v/\Q v H
def qTw (K:Qb):R2:=λx y H Q=>∃p xs i v,x=.ref p/\y=.int i/\SqT K H p xs/\lL xs i=some v/\Q v H
theorem ix_list:IxR X (qTx X.K):=by
 intro value slice pins s Z H x y v u Q I rx ry h hs
 obtain⟨p,xs,i,z,rfl,rfl,hq,he,q⟩:=h
 cases rx
 obtain⟨t,rfl⟩:=ry
 obtain⟨its,r,pl,hz⟩:=I.list hq
 obtain⟨j,h1,h2,h3,h4,h5⟩:=xR he
 obtain⟨w,ew,rw'⟩:=r.get h2
 have hl:=r.length
 have hn:=sf
 have fin:EP X pins Z Q w s:=⟨z,H,I,rw',q⟩
 by_cases h0:0<=i
 ·have hj:i.toNat=j:=by
   rw [seqIndex_of h0 h5] at h1
   exact fX h1
  exact item_listR pl.isList h0 (by omega) (by rw [hj];simpa using ew) fin hs
 ·have hj:(i+(its.toArray.size:Int)).toNat=j:=by
   rw [seqIndex_neg (by omega) h4] at h1
   rw [aH,<-hl]
   exact fX h1
  exact subscriptTail_builtinR (x:=w) pl.isList.typeIs slot_list_getitem.lookup
   (wpAny_getItem_list_neg (Q:=λr s'=>r=w/\EP X pins Z Q r s') pl.isList (by omega) (by rw [aH]<;>omega) (by omega) (by rw [hj];simpa using ew) ⟨rfl,fin⟩) hs
theorem qQp:IxR X (qTw X.K):=by
 intro value slice pins s Z H x y v u Q I rx ry h hs
 obtain⟨p,xs,i,z,rfl,rfl,hq,he,q⟩:=h
 cases rx
 obtain⟨t,rfl⟩:=ry
 obtain⟨its,r,pl,hz⟩:=I.tuple hq
 obtain⟨j,h1,h2,h3,h4,h5⟩:=xR he
 obtain⟨w,ew,rw'⟩:=r.get h2
 have hl:=r.length
 have hn:=sf
 have fin:EP X pins Z Q w s:=⟨z,H,I,rw',q⟩
 exact subscriptTail_builtinR (x:=w) pl.typeIs slot_tuple_getitem.lookup
  (getItem_tuple (j:=j) (Q:=λr s'=>r=w/\EP X pins Z Q r s') pl (by omega) (by omega) (by rw [aH,<-hl];exact h1) (by simpa using ew) ⟨rfl,fin⟩) hs
theorem qEF (lo hi:Option Int) (n:Nat):(sliceBounds lo hi none n).1=((HT.sIx n 0 lo:Nat):Int)/\(sliceBounds lo hi none n).2.1=((HT.sIx n n hi:Nat):Int)/\(sliceBounds lo hi none n).2.2=1:=by
 refine⟨?_,?_,rfl⟩
 ·cases lo with
  | none=>simp [sliceBounds,HT.sIx]
  | some i =>
   simp only [sliceBounds,HT.sIx,Option.getD_none,show (1:Int) > 0 by decide,if_true]
   by_cases h:i<0
   ·simp only [h,if_true]<;>omega
   ·simp only [h,if_false]<;>omega
 ·cases hi with
  | none=>simp [sliceBounds,HT.sIx]
  | some i =>
   simp only [sliceBounds,HT.sIx,Option.getD_none,show (1:Int) > 0 by decide,if_true]
   by_cases h:i<0
   ·simp only [h,if_true]<;>omega
   ·simp only [h,if_false]<;>omega
theorem qDY (its:List Value) (lo hi:Option Int):slicePick its.toArray lo hi none=((its.drop (HT.sIx its.length 0 lo)).take (HT.sIx its.length its.length hi - HT.sIx its.length 0 lo)).toArray:=by
 obtain⟨h1,h2,h3⟩:=qEF lo hi its.toArray.size
 unfold slicePick
 rw [h1,h2,h3]
 simp only [sliceRange_one,pick_run,aH]<;>rfl
def qTt (K:Qb):V->Option Int->Option Int->Hp->VK->Prop:=λx lo hi H Q=>∃a xs,x=.ref a/\SqL K H a xs/\∀p,H p=none->Q (.ref p) (av H p (.lst (i6 xs lo hi)))
theorem sl_list:SlR X (qTt X.K):=by
 intro pins s Z H x v vl vu lo hi sl Q I rx hs pl pu h
 obtain⟨a,xs,rfl,hx,q⟩:=h
 cases rx
 obtain⟨its,r,ht,hz⟩:=I.list hx
 have hlen:=r.length
 refine⟨"list",_,slot_list_getitem.lookup,ht.isList.typeIs,?_⟩
 refine wpAny_getItem_list_slice ht.isList hs pl pu .none (by simp) ?_ (by rw [aH]<;>omega)
 rw [qDY,<-hlen]
 refine⟨.ref s.heap.objs.size,_,I.laid (t':=s.toks) (o:=.lst (i6 xs lo hi)) (λb ob q=>Qg _ q) (ar _) ?_,rfl,q _ (I.hok.fresh (ar _))⟩
 exact⟨aM (An xs lo hi) hz,_,0,(r.drop (HT.sIx xs.length 0 lo)).take (HT.sIx xs.length xs.length hi - HT.sIx xs.length 0 lo),Qh _ rfl⟩
theorem qEY:CallR X (.builtin "len") (λxs H Q=>∃p ys,xs=[.ref p]/\(SqL X.K H p ys∨SqT X.K H p ys)/\Q (.int ys.length) H):=by
 intro pins s Z H xs us Q I r h
 obtain⟨p,ys,rfl,hq,q⟩:=h
 obtain⟨u,rfl,rx⟩:=gd r
 cases rx
 have hn:=sf
 rcases hq with hq|hq
 ·obtain⟨its,r',pl,hz⟩:=I.list hq
  have hlen:=r'.length
  exact Calls.call_len_list pl.isList (by simp only [aH]<;>omega) ⟨.int ys.length,H,I.tok _,⟨s.toks+1,by rw [aH,hlen]⟩,q⟩
 ·obtain⟨its,r',pl,hz⟩:=I.tuple hq
  have hlen:=r'.length
  exact len_tuple pl (by simp only [aH]<;>omega) ⟨.int ys.length,H,I.tok _,⟨s.toks+1,by rw [aH,hlen]⟩,q⟩
theorem CallR.or {f:Value}{r r':List V->Hp->VK->Prop}(h:CallR X f r) (h':CallR X f r'):CallR X f (λxs H Q=>r xs H Q∨r' xs H Q):=by
 intro pins s Z H xs us Q I rs q
 rcases q with q|q
 ·exact h pins s Z H xs us Q I rs q
 ·exact h' pins s Z H xs us Q I rs q
theorem qEX:CallR X (.type "list") (λxs H Q=>∃p ys,xs=[.ref p]/\(SqL X.K H p ys∨SqT X.K H p ys)/\∀l,H l=none->Q (.ref l) (av H l (.lst ys))):=by
 intro pins s Z H xs us Q I r h
 obtain⟨p,ys,rfl,hq,q⟩:=h
 obtain⟨u,rfl,rx⟩:=gd r
 cases rx
 have fin:∀(its:List Value),Vals ys its->ys.length<=sizeLine->∀(h':Heap) (c':Nat),(∀b o',s.heap.get? b=some o'->h'.get? b=some o') ->
   h'.get? s.heap.objs.size=some { cls:=.type "list",dict:=none,data:=.seq its.toArray c',slots:=#[] }->EP X pins Z Q (.ref s.heap.objs.size) { s with heap:=h' }:=λits r' hz h' c' kp e =>
  ⟨.ref s.heap.objs.size,_,I.laid (t':=s.toks) kp (ar _) (show ObjOk X.prog X.w _ h' _ (.lst ys) from ⟨hz,its,c',r',e⟩),rfl,q _ (I.hok.fresh (ar _))⟩
 rcases hq with hq|hq
 ·obtain⟨its,r',pl,hz⟩:=I.list hq
  have hlen:=r'.length
  obtain⟨o,ho,hc,n,hd⟩:=pl.isList
  exact call_list_seq p (.inl rfl) ho hc hd (λh' c' kp e=>fin its r' hz h' c' kp e) (by simp only [aH]<;>omega)
 ·obtain⟨its,r',pl,hz⟩:=I.tuple hq
  have hlen:=r'.length
  obtain⟨o,ho,hc,n,hd⟩:=pl
  exact call_list_seq p (.inr rfl) ho hc hd (λh' c' kp e=>fin its r' hz h' c' kp e) (by simp only [aH]<;>omega)
theorem qEi:CallR X (.type "tuple") (λxs H Q=>∃p ys,xs=[.ref p]/\((SqL X.K H p ys/\∀l,H l=none->Q (.ref l) (av H l (.tup ys)))∨(SqT X.K H p ys/\Q (.ref p) H))):=by
 intro pins s Z H xs us Q I r h
 obtain⟨p,ys,rfl,h⟩:=h
 obtain⟨u,rfl,rx⟩:=gd r
 cases rx
 rcases h with ⟨hq,q⟩|⟨hq,q⟩
 ·obtain⟨its,r',pl,hz⟩:=I.list hq
  have hlen:=r'.length
  refine call_tuple_list pl.isList (λh' kp=>?_) (by simp only [aH]<;>omega)
  have I1:Inv X pins Z H { s with heap:=h' }:=I.kept (t':=s.toks) kp
  have I2:Inv X pins Z (av H h'.objs.size (.tup ys)) { s with heap:=h'.push { cls:=.type "tuple",data:=.seq its.toArray } }:=
   I1.laid (t':=s.toks) (λb o e=>Qg _ e) (ar _) (show ObjOk X.prog X.w _ _ _ (.tup ys) from ⟨hz,its,r',IsTup.new _ _⟩)
  exact⟨.ref h'.objs.size,_,I2,rfl,q _ (I1.hok.fresh (ar _))⟩
 ·obtain⟨its,r',pl,hz⟩:=I.tuple hq
  exact call_tuple_same pl ⟨.ref p,H,I,rfl,q⟩
def qV (K:Qb) (T:String) (x:V) (H:Hp):Prop:=match x with
 | .str _=>T="str"
 | .int _=>T="int"
 | .ref p=>(T="list"/\∃xs,SqL K H p xs)∨(T="tuple"/\∃o,K.lookup p=some o/\o.cls=.type "tuple"/\o.dict=none) ∨
   (T="dict"/\((∃kvs,H p=some (.dK kvs))∨∃kvs,H p=some (.dT kvs)))∨(T="set"/\∃S n,H p=some (.set S n))
 | _=>False
theorem w5 {pins:List (Addr×Obj)}{Z:St}{H:Hp}{s:Shared}{T:String}{x:V}{v:Value}(I:Inv X pins Z H s) (r:RelV x v) (ty:qV X.K T x H) :
  s.TypeIs v T/\∀a,v=.ref a->∃ob,s.heap.get? a=some ob/\ob.dict=none:=by
 cases x with
 | str z =>
  obtain⟨t,rfl⟩:=r
  cases (show T="str" from ty)
  exact⟨typeIs_str s z t,λ_ e=>nomatch e⟩
 | int i =>
  obtain⟨t,rfl⟩:=r
  cases (show T="int" from ty)
  exact⟨typeIs_int s i t,λ_ e=>nomatch e⟩
 | ref p =>
  cases r
  rcases ty with ⟨rfl,xs,hq⟩|⟨rfl,o,hk,hc,hd⟩|⟨rfl,hk⟩|⟨rfl,S,n,hk⟩
  ·obtain⟨its,_,pl,_⟩:=I.list hq
   refine⟨pl.isList.typeIs,λa e=>?_⟩
   cases e
   obtain⟨o,n,e,c,hd,_⟩:=pl
   exact⟨o,e,hd⟩
  ·refine⟨⟨o,I.kIn p o hk,hc⟩,λa e=>?_⟩
   cases e
   exact⟨o,I.kIn _ o hk,hd⟩
  ·have z:∃o,s.heap.get? p=some o/\o.ExactDict:=by
    rcases hk with ⟨kvs,hk⟩|⟨kvs,hk⟩
    ·obtain⟨_,_,_,_,o,_,_,e,ex,_⟩:=I.hok p _ hk
     exact⟨o,e,ex⟩
    ·obtain⟨_,_,_,_,o,_,_,e,ex,_⟩:=I.hok p _ hk
     exact⟨o,e,ex⟩
   obtain⟨o,e,ex⟩:=z
   refine⟨⟨o,e,ex.1⟩,λa e2=>?_⟩
   cases e2
   exact⟨o,e,ex.2.1⟩
  ·obtain⟨o,_,_,_,e,ex,_⟩:=I.hok p _ hk
   refine⟨⟨o,e,ex.1⟩,λa e2=>?_⟩
   cases e2
   exact⟨o,e,ex.2.1⟩
 | _=>exact False.elim ty
noncomputable def qTo (K:Qb) (T:String) (r:V->List V->Hp->VK->Prop) (to:TE):TE:=fun Z H Q=>to Z H λx H1=>qV K T x H1/\r x [] H1 Q
noncomputable def tBM (K:Qb) (T:String) (r:V->List V->Hp->VK->Prop) (to:TE) (t:TA):TE:=fun Z H Q=>to Z H λx H1=>qV K T x H1/\t Z H1 λxs H2=>r x xs H2 Q
variable {o e:Expr}{es:List Expr}{to:TE}{t:TA}{name:Str}{apos cpos:Pos}{T id:String}{r:V->List V->Hp->VK->Prop}
theorem qPP (pa:PlainAttrs T) (slot:Slot T name id) (hty:typeOf (.builtin id)=pure (.type "method_descriptor")) (hm:BA X id r) (ho:PE X o to)
  (hbase:attributeBase o name X.env (eval o X.env)=eval o X.env:=by rfl) (hline:(apos.endLine == cpos.line)=true:=by rfl):PE X (.Call (.Attribute o name apos) [] [] cpos) (qTo X.K T r to):=by
 intro pins s Z H Q I h
 refine wpAny_Call_method0_late hbase hline (aw (ho pins s Z H _ I h) λv s1 ⟨x,H1,I1,r1,ty,q1⟩=>?_)
 obtain⟨h1,h2⟩:=w5 I1 r1 ty
 exact⟨T,id,pa,slot,hty,h1,h2,Calls.callWith_builtin rfl (PySem.evalArgs_none (hm pins s1 Z H1 x [] v [] Q I1 r1 .nil q1))⟩
theorem wG (pa:PlainAttrs T) (slot:Slot T name id) (hty:typeOf (.builtin id)=pure (.type "method_descriptor")) (hm:BA X id r) (ho:PE X o to) (ha:PA X (e::es) t)
  (hbase:attributeBase o name X.env (eval o X.env)=eval o X.env:=by rfl)
  (hfew:((backTo cpos (starEach (e::es) X.env)).all (λx=>!x.1)&&(backToKw cpos (keywordEach [] X.env)).all (λx=>x.1.isSome)
   && decide ((e::es).length+([]:List Keyword).length+(if ([]:List Keyword).isEmpty then 0 else 1)<30))=true:=by rfl)
  (hline:(apos.endLine == cpos.line)=true:=by rfl) (hs:starEach (e::es) X.env=(false,eval e X.env)::starEach es X.env:=by rfl) (hplain:(backTo cpos (starEach es X.env)).any (·.1)=false:=by rfl) :
  PE X (.Call (.Attribute o name apos) (e::es) [] cpos) (tBM X.K T r to t):=by
 intro pins s Z H Q I h
 refine wpAny_Call_method_late hbase hfew hline rfl (aw (ho pins s Z H _ I h) λv s1 ⟨x,H1,I1,r1,ty,q1⟩=>?_)
 obtain⟨h1,h2⟩:=w5 I1 r1 ty
 refine⟨T,id,pa,slot,hty,h1,h2,?_⟩
 have hA:=ha cpos pins s1 Z H1 _ I1 q1
 rw [hs] at hA ⊢
 refine Calls.callWith_builtin (by show (false||(backTo cpos (starEach es X.env)).any (·.1))=false;rw [hplain]<;>rfl) (Calls.evalArgs_plain ?_)
 exact aw hA λus s2 ⟨vs,H2,I2,r2,q2⟩=>hm pins s2 Z H2 x vs v us Q I2 r1 r2 q2
end
end L2
namespace L2
open PySem PySem.Spec PyProof.Rows
def ki (X:Cx) (id:String) (r:V->List V->Hp->VK->Prop):Prop:=
 ∀(pins:List (Addr×Obj)) (s:Shared) (Z:St) (H:Hp) (x:V) (xs:List V) (v:Value) (us:List Value) (Q:VK),Inv X pins Z H s->RelV x v->Vals xs us->r x xs H Q ->
   wpAny (model X.prog X.w) X.A (call (.builtin id) (v::us)) (EP X pins Z Q) X.xe s
theorem Vals.one:∀{x:V}{us:List Value},Vals [x] us->∃u,us=[u]/\RelV x u
 | _,_,.cons r .nil=>⟨_,rfl,r⟩
theorem Vals.zero:∀{us:List Value},Vals [] us->us=[]
 | _,.nil=>rfl
theorem Vals.dropLast {xs:List V}{us:List Value}(h:Vals xs us):Vals xs.dropLast us.dropLast:=by
 induction h with
 | nil=>exact .nil
 | cons r t ih =>
  cases t with
  | nil=>exact .nil
  | cons q t'=>exact .cons r ih
theorem Vals.reverse {xs:List V}{us:List Value}(h:Vals xs us):Vals xs.reverse us.reverse:=by
 induction h with
 | nil=>exact .nil
 | cons r t ih=>rw [lT,lT];exact Vals.append ih (.cons r .nil)
theorem Vals.rep {xs:List V}{us:List Value}(h:Vals xs us):∀k:Nat,Vals (List.replicate k xs).flatten (List.replicate k us).flatten
 | 0=>.nil
 | k+1=>by
  rw [kr,kr,jo,jo]
  exact Vals.append h (Vals.rep h k)
theorem qGQ {α:Type}(l:List α):l.eraseIdx (l.length - 1)=l.dropLast:=by
 induction l with
 | nil=>rfl
 | cons a r ih =>
  cases r with
  | nil=>rfl
  | cons b r =>
   have e:(a::b::r).length - 1=((b::r).length - 1)+1:=by
    have h1:(a::b::r).length=r.length+2:=rfl
    have h2:(b::r).length=r.length+1:=rfl
    omega
   rw [e,List.eraseIdx_cons_succ,ih]
   all_goals rfl
theorem zZ (its:List Value):∀(k:Nat) (acc:List Value),
  List.foldl (λx1 x2=>x1++x2) acc.toArray (List.replicate k its.toArray)=(acc++(List.replicate k its).flatten).toArray
 | 0,acc=>by simp
 | k+1,acc=>by
  have e:acc.toArray++its.toArray=(acc++its).toArray:=by simp
  have e2:(acc++its)++(List.replicate k its).flatten=acc++(List.replicate (k+1) its).flatten:=by
   rw [kr,jo,bw]
  rw [<-e2,<-zZ its k (acc++its),<-e,kr,lY]
section
variable {X:Cx}{pins:List (Addr×Obj)}{Z:St}{H:Hp}{s:Shared}{l b:Addr}{xs ys zs:List V}
theorem Inv.lset {its its':List Value}{n:Nat}{f:Array Value->Array Value}{t':Nat}(I:Inv X pins Z H s) (hH:H l=some (.lst xs))
  (e:s.heap.get? l=some { cls:=.type "list",data:=.seq its.toArray n }) (hf:f its.toArray=its'.toArray) (hv:Vals ys its') (hz:ys.length<=sizeLine) :
  Inv X pins Z (av H l (.lst ys)) { s with heap:=s.heap.update l (Obj.mapSeq f),toks:=t' }:=by
 have q:=PySem.IsL.update e f
 rw [hf] at q
 refine I.write (x:=l) (e:=l) (by rw [hH];exact trivial) (.inl rfl) (λb' u hb hu=>(Heap.get?_update_other s.heap (Obj.mapSeq f) (Ne.symm hb)).trans hu) ⟨_,q⟩ ?_
 exact⟨hz,its',_,hv,q⟩
theorem Inv.lnew {its:List Value}{t':Nat}(I:Inv X pins Z H s) (hv:Vals ys its) (hz:ys.length<=sizeLine) :
  Inv X pins Z (av H s.heap.objs.size (.lst ys)) { s with heap:=s.heap.push { cls:=.type "list",data:=.seq its.toArray },toks:=t' }:=
 I.laid (λ_ _ q=>Qg _ q) (ar _) ⟨hz,its,0,hv,Qh _ rfl⟩
theorem Inv.fresh (I:Inv X pins Z H s):H s.heap.objs.size=none:=I.hok.fresh (ar _)
theorem Inv.lstM (I:Inv X pins Z H s) (hH:H l=some (.lst xs)):xs.length<=sizeLine/\∃(its:List Value) (n:Nat),Vals xs its/\xs.length=its.length/\s.heap.get? l=some { cls:=.type "list",data:=.seq its.toArray n }:=by
 obtain⟨z,its,n,r,e⟩:=I.hok l _ hH
 exact⟨z,its,n,r,r.length,e⟩
theorem tX {n:Nat}(h:n<=sizeLine):Builtin.List.listTooLong n=false:=by
 unfold Builtin.List.listTooLong
 exact Qj (by omega)
end
section
variable {X:Cx}
def qNl:V->List V->Hp->VK->Prop:=λx vs H Q=>∃l xs y,x=.ref l/\vs=[y]/\H l=some (.lst xs)/\xs.length<sizeLine/\Q .non (av H l (.lst (xs++[y])))
theorem Ab:ki X "list.append" qNl:=by
 intro pins s Z H x vs v us Q I rx rv h
 obtain⟨l,xs,y,rfl,rfl,hH,hz,q⟩:=h
 cases rx
 obtain⟨u,rfl,ru⟩:=rv.one
 obtain⟨z,its,n,r,hl,e⟩:=I.lstM hH
 refine call_meets F.slot_list_append ⟨_,e,rfl⟩ F.entry_list_append (F.args_list_append_2 _ _) (PySem.list_append l its.toArray n u (by rw [aH];omega)) ⟨e,?_⟩
 refine⟨.non,_,I.lset (its':=its++[u]) hH e (by simp) (r.append (.cons ru .nil)) ?_,rfl,q⟩
 rw [bf,qM]
 omega
def qNk:V->List V->Hp->VK->Prop:=λx vs H Q=>∃l b xs zs,x=.ref l/\vs=[.ref b]/\H l=some (.lst xs)/\H b=some (.lst zs)/\xs.length+zs.length<=sizeLine/\Q .non (av H l (.lst (xs++zs)))
theorem qH5:ki X "list.extend" qNk:=by
 intro pins s Z H x vs v us Q I rx rv h
 obtain⟨l,b,xs,zs,rfl,rfl,hH,hB,hz,q⟩:=h
 cases rx
 obtain⟨u,rfl,ru⟩:=rv.one
 cases ru
 obtain⟨z,its,n,r,hl,e⟩:=I.lstM hH
 obtain⟨z2,its2,n2,r2,hl2,e2⟩:=I.lstM hB
 have hsz:its.toArray.size+its2.toArray.size<=sizeLine:=by rw [aH,aH];omega
 have hlong:¬(!its.toArray.isEmpty&&Builtin.List.listTooLong (its.toArray.size+its2.toArray.size))=true:=by
  rw [tX hsz,jl]
  exact fZ
 refine call_meets F.slot_list_extend ⟨_,e,rfl⟩ F.entry_list_extend (F.args_list_extend_2 _ _)
  (AutoSeq1.list_extend_list_list_0 l its.toArray n b its2.toArray n2 hlong (by rw [aH];omega) (by omega)) ⟨e,e2,?_⟩
 refine⟨.non,_,I.lset (its':=its++its2) hH e (by simp) (r.append r2) ?_,rfl,q⟩
 rw [bf]
 omega
def qTv:V->List V->Hp->VK->Prop:=λx vs H Q=>∃l xs y,x=.ref l/\vs=[]/\H l=some (.lst xs)/\xs[xs.length - 1]?=some y/\Q y (av H l (.lst xs.dropLast))
theorem qQb:ki X "list.pop" qTv:=by
 intro pins s Z H x vs v us Q I rx rv h
 obtain⟨l,xs,y,rfl,rfl,hH,hy,q⟩:=h
 cases rx
 have hus:=rv.zero
 subst hus
 obtain⟨z,its,n,r,hl,e⟩:=I.lstM hH
 obtain⟨u,hu,ru⟩:=r.get hy
 have hy':its.toArray[its.toArray.size - 1]?=some u:=by
  show its.toArray[its.length - 1]?=some u
  rw [<-iU,<-hl]
  exact hu
 refine call_meets F.slot_list_pop ⟨_,e,rfl⟩ F.entry_list_pop (F.args_list_pop_1 _) (MeetsSeq.list_pop_last l its.toArray n u hy' (by rw [aH];omega)) ⟨e,?_⟩
 refine⟨y,_,I.lset (its':=its.dropLast) hH e ?_ r.dropLast ?_,ru,q⟩
 ·show its.toArray.eraseIdxIfInBounds (its.toArray.size - 1)=its.dropLast.toArray
  rw [aH,List.eraseIdxIfInBounds_toArray,qGQ]
 ·rw [List.length_dropLast]
  omega
theorem qNP {α:Type}(xs:List α) (k:Nat):(List.replicate k xs).flatten.length=k * xs.length:=by
 induction k with
 | zero=>simp
 | succ k ih=>rw [kr,jo,bf,ih,nH,Nat.add_comm]
end
end L2
namespace Att
open PySem PySem.W PySem.Calls PyProof.Rows
theorem qDl {P:Params}{h:Heap}:∀(ns:List Int) (vs:List Value),WellAll P h vs (ns.map WData.int)->IntsAre vs ns:=by
 intro ns
 induction ns with
 | nil =>
  intro vs w
  rw [List.map_nil] at w
  cases w
  exact .nil
 | cons n ns ih =>
  intro vs w
  rw [cT] at w
  cases w with
  | cons a b =>
   cases a
   exact .cons _ _ (ih _ b)
theorem script_of {l:OpenLaw}{n:Nat}(hn:l.most=some n) {P:Params}{h:Heap}{args:List WData}{vals:List Value}
  (hpre:l.row.toRowW.claim.pre args=true) (hwl:WellAll P h vals args) :
  ∃a vs ns,vals=[Value.ref a]/\args=[WData.list (ns.map WData.int)]/\h.get? a=some { cls:=.type "list",data:=.seq vs.toArray }/\IntsAre vs ns/\ns.length<=n:=by
 have hsh:WShape.hasAll [] args [.list .int]=true:=(pre_splitW hpre).1
 have hc:l.pre.holds [] { args:=args }=true:=(pre_splitW hpre).2
 obtain⟨d,r,rfl,h1,h2⟩:=hasAllW_cons hsh
 obtain rfl:=hasAllW_nil h2
 obtain⟨xs,rfl,h3⟩:=hasW_list h1
 obtain⟨ns,rfl⟩:=items_int h3
 have hlen:ns.length<=n:=by
  unfold OpenLaw.pre at hc
  have h4:(WTm.not (.lt (.lit (.int (n:Int))) (.len (.arg 0)))).holds [] { args:=[.list (ns.map .int)] }=true:=by
   have h4:=(holds_andW hc).1
   rw [hn] at h4
   exact h4
  have h5:=condW_of h4 (w_not (w_lt w_lit (w_len_list (w_arg rfl))))
  rw [aC] at h5
  refine Nat.le_of_not_lt λq=>?_
  have q':(n:Int)<((ns.length:Nat):Int):=by omega
  first
   | (rw [Qk q'] at h5;exact Qn h5 (by decide))
   | (simp at h5;omega)
 cases hwl with
 | cons w1 w2 =>
  cases w2
  cases w1 with
  | list ho hall=>exact⟨_,_,ns,rfl,rfl,ho,qDl ns _ hall,hlen⟩
theorem post_true (l:OpenLaw) (args:List WData):l.row.toRowW.claim.post args (.bool true) args=true:=
 postW_of (r:=l.row.toRowW) (X:=(true == true))
  (show WShape.has [] (.bool true) .bool=true by first|rfl|decide|simp [WShape.has,WShape.arms,WShape.armsAll])
  (show (WTm.eq .res (.lit (.bool true))).value [] { args:=args,res:=some (.bool true),after:=args }=some (.bool (true == true)) from w_eq_bool (w_res rfl) w_lit) rfl
end Att
namespace L2
open PySem PySem.Spec PyProof.Rows
theorem uC:∀{vs:List Value}{ns:List Int},IntsAre vs ns->Vals (ns.map V.int) vs
 | _,_,.nil=>.nil
 | _,_,.cons n t h=>.cons ⟨t,rfl⟩ (uC h)
end L2
namespace L2
open PySem PySem.Spec PyProof.Rows
noncomputable abbrev fw:g0:=λ_ _ _ _ _ _=>False
noncomputable abbrev E0:XK:=λ_ _ _=>False
theorem wF {X:Cx}:rX fw X E0:=λ_ _ _ _ _ _ _ h=>h.elim
structure Fun (K:Qb) (x qual:Str) (st:Stmt) (f:Addr) (fd:FuncData):Prop where
 ex:∃(oc:Value) (od:Option Addr) (kV doc pm:Value) (an:Option Addr) (cdv ct:Value) (osl:Array (Option Value)),
  fd=PySem.W.fnOf x qual (fQ st) (bT st) (ay st) .none kV doc pm an cdv ct/\K.lookup f=some ⟨oc,od,.func fd,osl⟩/\PySem.W.codeIn K cdv qual=true
 kp:PySem.W.keepIn K (.ref f)=true
section
variable {P:Program}{w:World}{K:Qb}{mg:Str->Option Value}{base:Heap}
theorem Fun.binds {x qual:Str}{st:Stmt}{f:Addr}{fd:FuncData}{ps:List Str}(F:Fun K x qual st f fd)
  (h:∀(kV doc pm:Value) (an:Option Addr) (cdv ct:Value) (us:List Value),us.length=ps.length->bindArgs (PySem.W.fnOf x qual (fQ st) (bT st) (ay st) .none kV doc pm an cdv ct) ⟨us,[]⟩=pure (ps.zip us)):Binds K fd ps []:=by
 obtain⟨oc,od,kV,doc,pm,an,cdv,ct,osl,rfl,lk,hcd⟩:=F.ex
 exact .all (h kV doc pm an cdv ct)
theorem rY {x qual:Str}{st:Stmt}{f:Addr}{oc:Value}{od an:Option Addr}{osl:Array (Option Value)}{kV doc pm cdv ct:Value}(l:K.lookup f=some ⟨oc,od,.func (PySem.W.fnOf x qual (fQ st) (bT st) (ay st) .none kV doc pm an cdv ct),osl⟩)
  (c:PySem.W.codeIn K cdv qual=true) (k:PySem.W.keepIn K (.ref f)=true):Fun K x qual st f (PySem.W.fnOf x qual (fQ st) (bT st) (ay st) .none kV doc pm an cdv ct):=⟨⟨oc,od,kV,doc,pm,an,cdv,ct,osl,rfl,l,c⟩,k⟩
end
section
variable {X:Cx}
theorem pv (i:Nat) {x:Str}{pos:Pos}(hN:X.N[i]?=some x:=by rfl) (hv:jh X.env.scope x:=by first|exact Or.inl rfl|exact Or.inr (Or.inl rfl)|exact Or.inr (Or.inr rfl)) (hd:(x == ("__debug__":Str))=false:=by decide)
  (hcd:(x == ("__classdict__":Str))=false:=by decide):PE X (.Name x pos) (mh i):=jb hN hv hd hcd
end
theorem n9 {A B:Prop}(h:B):if false=true then A else B:=by
 rw [Qm fZ]
 exact h
theorem oa {A B:Prop}(h:A):if true=true then A else B:=by
 rw [Ql rfl]
 exact h
def Same (H H':Hp):Prop:=∀b o,H b=some o->H' b=some o
theorem Same.refl (H:Hp):Same H H:=λ_ _ h=>h
theorem Same.trans {H H1 H2:Hp}(a:Same H H1) (b:Same H1 H2):Same H H2:=λc o h=>b c o (a c o h)
theorem Same.free {H H':Hp}(e:Same H H') {l:Addr}(h:H' l=Option.none):H l=Option.none:=by
 cases q:H l with
 | none=>rfl
 | some o =>
  rw [e l o q] at h
  cases h
end L2
namespace L2
open PySem PySem.W PySem.Calls PyProof.Rows
section
variable {X:Cx}{pins:List (Addr×Obj)}{Z:St}{H:Hp}{s:Shared}{h':Heap}
theorem Inv.tabGrow {P c:Addr}{pos:Pos}{q:Str}{ps:Array Value}{oc:Obj}{vs:Array Value}{t:Tok}{t':Nat}(I:Inv X pins Z H s) (hP:H P=some (.tab pos q)) (hx:Heap.ExtBut P s.heap h') (hc:s.heap.objs.size<=c)
  (ho:h'.get? c=some oc) (hd:oc.data=.fields vs) (hv:vs[1]?=some (.str q t)) (hp:h'.get? P=some (tabObj ps)) (ht:TriplesOk ps.toList) (hf:codeAmong pos ps.toList=some (.ref c)) :
  Inv X pins Z (av H c (.frz oc (.own c))) { s with heap:=h',toks:=t' }:=by
 have hn:H c=none:=I.hok.fresh hc
 have nP:∀b,H b=none->b≠P:=λb n z=>by subst z;rw [hP] at n;cases n
 have u:Un X.fs [] H (av H c (.frz oc (.own c))) s.heap h':=⟨λb o e n _ _=>hx b o (nP b n) e,λb o e n _ _=>⟨o.slots,hx b o (nP b n) e⟩,
  λb o e n _=>by rw [ax (bK (bG (Qi e) hc))];exact n,λb o e _=>by
   by_cases z:b=P
   ·subst z;exact⟨_,hp⟩
   ·exact⟨o,hx b o z e⟩,
  λb xs e=>by rw [ax (cf e hn)];exact e,λb o v e=>by rw [ax (cf e hn)];exact e,λb xs e=>⟨#[],by rw [ax (cf e hn),e];simp⟩⟩
 refine I.un u λa o e=>?_
 by_cases z:a=c
 ·subst z
  rw [dJ] at e;cases e
  exact⟨ho,_,ho⟩
 ·rw [ax z] at e
  by_cases zP:a=P
  ·subst zP
   rw [hP] at e;cases e
   exact⟨ps,hp,ht,.inr ⟨c,oc,_,vs,t,hf,dJ,hd,hv⟩⟩
  ·refine (I.hok a o e).stay (λb v hb q=>hx b v ?_ q) (λb q=>by rw [ax (cf q hn)];exact q) (λb xs q=>by rw [ax (cf q hn)];exact q) λb ob v _ q _=>by rw [ax (cf q hn)];exact q
   rcases hb with rfl|hb
   ·exact zP
   ·rintro rfl;rw [hP] at hb;cases hb
noncomputable def ox (X:Cx) (la:Arguments) (e:Expr) (sc:Scope) (clos:List (Str×Addr)) (pos:Pos) (P:Addr):TE:=λ_ H Q=>H P=some (.tab pos (X.env.qual++"<lambda>")) /\
 ∀(f c:Addr) (oc:Obj) (vs:Array Value) (t:Tok) (ctv:Value) (H':Hp),(∀b o,H b=some o->H' b=some o)->H f=none->H' f=some (.frz (kla_obj "<lambda>" (X.env.qual++"<lambda>") la e sc clos ((X.mg "__name__").getD .none) c ctv) (.own f)) ->
   (∃u,H' c=some (.frz oc u))->oc.data=.fields vs->vs[1]?=some (.str (X.env.qual++"<lambda>") t)->(∀b o,H' b=some o->H b=some o∨∃ob u,o=.frz ob u)->Q (.ref f) H'
theorem qPN {c P:Addr}{la:Arguments}{e:Expr}{sc:Scope}{pos:Pos}{clos:List (Str×Addr)}(hdef:defaultsOf la X.env=([],[])) (hcl:closureFor sc X.env=pure clos) (hcode:X.env.code=.ref c) (C:CodeHd X.base c P) (hb:X.base.BuiltinsAt X.mg P) :
  PE X (.Lambda la e sc pos) (ox X la e sc clos pos P):=by
 intro pins s Z H Q I ⟨hP,k⟩
 refine kla_eval hdef ?_
 obtain⟨ps,hp,ht,r⟩:=I.hok P _ hP
 have hg:=I.mod.glob.keeps I.bk
 obtain⟨bm,ob,b1,b2,b3,b4,b5,b6⟩:=hb
 have hb':s.heap.BuiltinsAt X.mg P:=⟨bm,ob,b1,b2,b3,b4,I.bk _ _ b5,b6⟩
 have hgP:mainGlobals≠P:=λz=>by
  obtain⟨o,es,ep,ho,_⟩:=I.mod.glob
  have:=(I.bs _ _ ho).2
  rw [z,hP] at this;cases this
 rcases r with hn|⟨c',oc,u,vs,t,hf,hc,hd,hv⟩
 ·refine kla_makeFunction (mg:=X.mg) hcl I.ok.glob hg hcode (C.keeps I.bk) hp ht hn hgP hb' λc' ctv h' tk hx hge hlt hrec htb=>?_
  obtain⟨c₂,oc,vs,t,e2,hoc,hd,hv⟩:=hrec
  cases e2
  have hnc:H c'=none:=I.hok.fresh hge
  have I1:=I.tabGrow (t':=tk) hP hx hge hoc hd hv htb (by rw [Array.toList_append];exact TriplesOk_snoc _ _ _ _ ht) (by rw [Array.toList_append];exact codeAmong_snoc _ ht hn)
  have hsz:s.heap.objs.size<=h'.objs.size:=aM hge (fb hlt)
  have hfn:H h'.objs.size=none:=I.hok.fresh hsz
  have ne:c'≠h'.objs.size:=bK hlt
  have I2:=I1.laid (a:=h'.objs.size) (o:=.frz (kla_obj "<lambda>" (X.env.qual++"<lambda>") la e sc clos ((X.mg "__name__").getD .none) c' ctv) (.own h'.objs.size)) (t':=tk) (λb u e=>Qg _ e) (ar _) ⟨Qh _ rfl,_,Qh _ rfl⟩
  refine⟨.ref h'.objs.size,_,I2,rfl,k _ c' oc vs t ctv _ (λb o e=>?_) hfn dJ ⟨_,(by rw [ax ne];exact dJ)⟩ hd hv λb o e=>?_⟩
  ·rw [ax (cf e hfn),ax (cf e hnc)];exact e
  ·by_cases z:b=h'.objs.size
   ·subst z;rw [dJ] at e;cases e;exact .inr ⟨_,_,rfl⟩
   ·rw [ax z] at e
    by_cases z:b=c'
    ·subst z;rw [dJ] at e;cases e;exact .inr ⟨_,_,rfl⟩
    ·rw [ax z] at e;exact .inl e
 ·refine kla_makeFunctionHit (mg:=X.mg) hcl I.ok.glob hg hcode (C.keeps I.bk) hp ht hf hb' λctv h' tk hk hsz=>?_
  have hfn:H h'.objs.size=none:=I.hok.fresh hsz
  have I2:=I.laid (a:=h'.objs.size) (h':=h'.push { cls:=.type "function",data:=.func (kla_fn "<lambda>" (X.env.qual++"<lambda>") la e sc clos ((X.mg "__name__").getD .none) (.ref c') ctv) }) (o:=.frz (kla_obj "<lambda>" (X.env.qual++"<lambda>") la e sc clos ((X.mg "__name__").getD .none) c' ctv) (.own h'.objs.size)) (t':=tk) (λb u e=>Qg _ (hk b u e)) hsz ⟨Qh _ rfl,_,Qh _ rfl⟩
  refine⟨.ref h'.objs.size,_,I2,rfl,k _ c' oc vs t ctv _ (λb o e=>?_) hfn dJ ⟨u,?_⟩ hd hv λb o e=>?_⟩
  ·rw [ax (cf e hfn)];exact e
  ·rw [ax (cf hc hfn)];exact hc
  ·by_cases z:b=h'.objs.size
   ·subst z;rw [dJ] at e;cases e;exact .inr ⟨_,_,rfl⟩
   ·rw [ax z] at e;exact .inl e
end
end L2
namespace L2
open PySem PySem.W PySem.Calls PyProof.Rows
def kM (P:Program) (w:World) (K:Frag) (mg:Str->Option Value) (base:Heap) (N:List Str) (qual:Str) (scope:Scope) (f:Addr) (cd:Value) (clos:List (Str×Addr)) (A:Around) (outer:List Env) (s:Shared) (H:Hp):Cx where
 prog:=P
 w:=w
 K:=K
 mg:=mg
 base:=base
 A:=A.deeper (envX qual scope s.heap.objs.size f cd clos)
 N:=N
 s₀:=s
 H₀:=H
 env:=envX qual scope s.heap.objs.size f cd clos
 outer:=outer
 stack:=envX qual scope s.heap.objs.size f cd clos::outer
 ex:=[]
 calm:=true
 fn:=λ_=>false
 pn:=[]
 xe:=λ_ _=>False
section
variable {P:Program}{w:World}{K:Frag}{mg:Str->Option Value}{base:Heap}{N:List Str}{name qual:Str}{params:Arguments}{body:Expr}{scope:Scope}{f c:Addr}{clos:List (Str×Addr)}{pm ctv:Value}{A:Around}{outer:List Env}{s:Shared}{H:Hp}
theorem qJv:∀{ps:List Str}{us:List Value}{j:Nat}{y:Str}{u:Value},ps.Nodup->ps[j]?=some y->us[j]?=some u->(ps.zip us).reverse.lookup y=some u:=by
 intro ps
 induction ps with
 | nil=>intro us j y u _ h;simp at h
 | cons p ps ih =>
  intro us j y u nd h1 h2
  cases us with
  | nil=>simp at h2
  | cons w us =>
   obtain⟨np,nd⟩:=ybv.mp nd
   rw [List.zip_cons_cons,lT,List.lookup_append]
   cases j with
   | zero =>
    simp at h1 h2
    subst h1 h2
    have:(ps.zip us).reverse.lookup p=none:=by
     rw [List.lookup_eq_none_iff]
     intro q hq
     have:=(lZ (List.mem_reverse.mp hq)).1
     simp only [bne_iff_ne,ne_eq,Bool.not_eq_true,beq_eq_false_iff_ne]
     intro e
     exact np (e▸this)
    rw [this]
    simp
   | succ j =>
    rw [qR] at h1 h2
    rw [ih nd h1 h2]
    rfl
theorem qNR {ps:List Str}{vs:List V}{us:List Value}{t:TE}{Q:VK}{Z:St}(hf:s.heap.get? f=some (kla_obj name qual params body scope clos pm c ctv)) (hcd:s.heap.CodeRec (.ref c) qual) (hdep:A.depth<recursionLimit) (hh:A.handled=none)
  (e0:Env0 P w K mg base A outer s H) (hk:scope.kind=.function) (hco:scope.isCoroutine=false) (hgen:scope.isGenerator=false) (hcell:∀y∈scope.names,y.2≠.cell)
  (hbind:bindArgs (kla_fn name qual params body scope clos pm (.ref c) ctv) ⟨us,[]⟩=pure (ps.zip us)) (hloc:∀x∈ps,scope.names.lookup x=some .local) (nd:ps.Nodup) (rv:Vals vs us) (hlen:Z.length=N.length)
  (hZ:∀(i:Nat) (y:Str) (v':V),N[i]?=some y->Z[i]?=some (some v')->(∃j:Nat,ps[j]?=some y/\vs[j]?=some v')∨(scope.names.lookup y=some .free/\∃c u,clos.lookup y=some c/\s.heap.IsCell c (some u)/\RelV v' u))
  (inj:∀y z c,clos.lookup y=some c->clos.lookup z=some c->y=z) (has:∀y,scope.names.lookup y=some .free->∃c,clos.lookup y=some c)
  (cells:∀y c,clos.lookup y=some c->(∃v,s.heap.IsCell c v)/\H c=none)
  (ht:PE (kM P w K mg base N qual scope f (.ref c) clos A outer s H) body t) (hq:t Z H Q) :
  codeAny (model P w) A (.call (.ref f) ⟨us,[]⟩) (λr s'=>match r with|.ok (.ret u)=>CE outer P w H s Q u s'|_=>False) s:=by
 have lim:s.heap.NoLimit:=e0.mod.nolimit.keeps λb o e=>(e0.bs b o e).1
 refine kla_callFunE hdep hf rfl hco hgen rfl hcd ?_
 rw [hbind]
 refine Qd (wpAny_newFunctionEnv hcell (λy hy=>hloc y.1 (lZ hy).1) (λh₁ hns hsb=>?_) hk)
 have kp:∀b o,s.heap.get? b=some o->h₁.get? b=some o:=λb o e=>hsb.extBut b o (bK (Qi e)) (Qg _ e)
 refine⟨lim.keeps kp,?_⟩
 show codeAny _ _ (.expr body (envX qual scope s.heap.objs.size f (.ref c) clos)) _ _
 have I:Inv (kM P w K mg base N qual scope f (.ref c) clos A outer s H) [] Z H { s with heap:=h₁,toks:=s.toks+(ps.zip us).length }:=by
  refine⟨⟨e0.mod,hk,rfl,rfl,ar _,inj,λy hy=>?_,λy c hy=>(nomatch hy),λ_=>hh,Around.frames_deeper e0.frames,.inr ⟨rfl,rfl⟩,λb z=>(nomatch z),e0.bs,e0.bsz,λb _ _ z=>(nomatch z),λb z=>(nomatch z),e0.funs,e0.frf⟩,
   rfl,e0.bare,Un.kept kp,⟨_,hns,λi y v' h1 h2 h3=>?_⟩,λy c h=>?_,e0.hok.fresh (ar _),λy c h=>(cells y c h).2,λp hp=>(nomatch hp),e0.hok.kept kp,hlen⟩
  ·have hy:scope.names.lookup y=some .cell∨scope.names.lookup y=some .free:=hy
   rcases hy with hy|hy
   ·exact Qn rfl (hcell _ (dg hy))
   ·exact has y hy
  ·rcases hZ i y v' h1 h2 with ⟨j,j1,j2⟩|⟨hy,c,u,e1,e2,e3⟩
   ·obtain⟨u,u1,u2⟩:=rv.get j2
    exact⟨u,u2,.inl ⟨hloc y (cj j1),qJv nd j1 u1⟩⟩
   ·obtain⟨o,ho,hd⟩:=e2
    exact⟨u,e3,.inr ⟨.inr hy,c,e1,o,kp _ _ ho,hd⟩⟩
  ·obtain⟨v,o,ho,hd⟩:=(cells y c h).1
   exact⟨v,o,kp _ _ ho,hd⟩
 exact kla_codeExpr (Qe (ht [] _ Z H Q I hq) (λu s' ⟨v',H',J,r,q⟩=>⟨v',H',J.os,J.bare,J.base,J.hok,r,q⟩) λ_ _ z=>z.elim)
end
end L2
namespace L2
open PySem PySem.W PySem.Calls PyProof.Rows
noncomputable def bR (H:Hp) (cs:List (Addr×Obj)):Hp:=λa=>match cs.lookup a with
 | some o=>some (.frz o (.own a))
 | none=>H a
noncomputable def bI (H:Hp) (cs:List (Addr×Obj)):Hp:=λa=>match cs.lookup a with
 | some _=>none
 | none=>H a
section
variable {P:Program}{w:World}{H H':Hp}{h:Heap}{cs:List (Addr×Obj)}{a:Addr}{o:Obj}
theorem iL (e:cs.lookup a=some o):bR H cs a=some (.frz o (.own a)):=by unfold bR;rw [e]
theorem de (e:cs.lookup a=none):bR H cs a=H a:=by unfold bR;rw [e]
theorem jQ (e:cs.lookup a=some o):bI H cs a=none:=by unfold bI;rw [e]
theorem cH (e:cs.lookup a=none):bI H cs a=H a:=by unfold bI;rw [e]
def wU (o:HO):Prop:=∀ob u v,o=.frz ob u->ob.data≠.cell v
def gO (cs:List (Addr×Obj)):Prop:=∀a o,cs.lookup a=some o->∃v,o.data=.cell v
def cR (H:Hp) (cs:List (Addr×Obj)):Prop:=∀a o,cs.lookup a=some o->H a=some (.frz o (.own a))
theorem qKn (C:gO cs) (I:cR H cs) {x:HO}(e:H a=some x) (n:wU x):cs.lookup a=none:=by
 cases k:cs.lookup a with
 | none=>rfl
 | some o =>
  rw [I a o k] at e
  cases e
  obtain⟨v,hv⟩:=C a o k
  exact Qn hv (n o _ v rfl)
theorem tQ (C:gO cs) (I:cR H cs) {x:HO}(e:H a=some x) (n:wU x):bI H cs a=some x:=by rw [cH (qKn C I e n)];exact e
theorem HOk.off (k:HOk P w H h) (C:gO cs) (I:cR H cs):HOk P w (bI H cs) h:=by
 intro a o e
 cases z:cs.lookup a with
 | some ob=>rw [jQ z] at e;cases e
 | none =>
  rw [cH z] at e
  refine (k a o e).stay (λb u _ q=>q) (λb q=>tQ C I q (λ_ _ _ r=>by cases r)) (λb xs q=>tQ C I q (λ_ _ _ r=>by cases r)) λb ob u vs q d=>tQ C I q λob' u' v r d'=>?_
  cases r
  rw [d] at d'
  cases d'
theorem HOk.on (k:HOk P w H h) (n:∀a o,cs.lookup a=some o->H a=none/\h.get? a=some o):HOk P w (bR H cs) h:=by
 have kp:∀b x,H b=some x->bR H cs b=some x:=λb x e=>by
  cases z:cs.lookup b with
  | some ob=>rw [(n b ob z).1] at e;cases e
  | none=>rw [de z];exact e
 intro a o e
 cases z:cs.lookup a with
 | some ob =>
  rw [iL z] at e
  cases e
  exact⟨(n a ob z).2,ob,(n a ob z).2⟩
 | none =>
  rw [de z] at e
  exact (k a o e).stay (λb u _ q=>q) (λb q=>kp _ _ q) (λb xs q=>kp _ _ q) λb ob u vs q _=>kp _ _ q
end
section
variable {P:Program}{w:World}{H:Hp}{s s':Shared}{cs:List (Addr×Obj)}{outer:List Env}{Q:VK}{u:Value}
theorem qSH (k:HOk P w H s.heap) (C:gO cs) (I:cR H cs) (nf:∀a o,cs.lookup a=some o->a∉eT outer) (c:CE outer P w (bI H cs) s (λv H'=>(∀a o,cs.lookup a=some o->H' a=none)->Q v (bR H' cs)) u s'):CE outer P w H s Q u s':=by
 obtain⟨v,H',os,bare,un,hok,r,q⟩:=c
 have at0:∀a o,cs.lookup a=some o->s.heap.get? a=some o:=λa o e=>(k a _ (I a o e)).1
 have ne:∀{b x},H b=some x->(∀a o,cs.lookup a=some o->x≠.frz o (.own a))->cs.lookup b=none:=λ{b x} e n=>by
  cases z:cs.lookup b with
  | none=>rfl
  | some o=>rw [I b o z] at e;cases e;exact Qn rfl (n b o z)
 have no:∀{b},H b=none->cs.lookup b=none:=λ{b} e=>by
  cases z:cs.lookup b with
  | none=>rfl
  | some o=>rw [I b o z] at e;cases e
 refine⟨v,bR H' cs,os,bare,⟨λb o e n f x=>un.keep b o e (by rw [cH (no n)];exact n) f x,λb o e n f x=>un.slot b o e (by rw [cH (no n)];exact n) f x,λb o e n x=>?_,un.there,λb xs e=>?_,λb o w' e=>?_,λb ps e=>?_⟩,?_,r,q λa o e=>un.free a o (at0 a o e) (jQ e) (by simp)⟩
 ·rw [de (no n)];exact un.free b o e (by rw [cH (no n)];exact n) x
 ·have z:=ne e (λa o _ r=>by cases r)
  rw [de z];exact un.tups b xs (by rw [cH z];exact e)
 ·cases z:cs.lookup b with
  | some ob =>
   rw [I b ob z] at e
   cases e
   exact iL z
  | none=>rw [de z];exact un.frzs b o w' (by rw [cH z];exact e)
 ·have z:=ne e (λa o _ r=>by cases r)
  obtain⟨m,e2⟩:=un.tbls b ps (by rw [cH z];exact e)
  exact⟨m,by rw [de z];exact e2⟩
 ·refine hok.on λa o e=>?_
  have g:=at0 a o e
  exact⟨un.free a o g (jQ e) (by simp),un.keep a o g (jQ e) (nf a o e) (by simp)⟩
theorem qQL (C:gO cs) (n:∀a o,cs.lookup a=some o->H a=none/\s.heap.get? a=some o) (c:CE outer P w (bR H cs) s (λv H'=>cR H' cs->Q v (bI H' cs)) u s'):CE outer P w H s Q u s':=by
 obtain⟨v,H',os,bare,un,hok,r,q⟩:=c
 have I:cR H' cs:=λa o e=>un.frzs a o _ (iL e)
 have ne:∀{b x},H b=some x->cs.lookup b=none:=λ{b x} e=>by
  cases z:cs.lookup b with
  | none=>rfl
  | some o=>rw [(n b o z).1] at e;cases e
 refine⟨v,bI H' cs,os,bare,⟨λb o e m f x=>?_,λb o e m f x=>?_,λb o e m x=>?_,un.there,λb xs e=>?_,λb o w' e=>?_,λb ps e=>?_⟩,hok.off C I,r,q I⟩
 ·cases z:cs.lookup b with
  | none=>exact un.keep b o e (by rw [de z];exact m) f x
  | some ob =>
   have e2:=(n b ob z).2
   rw [e] at e2
   cases e2
   exact (hok b _ (I b o z)).1
 ·cases z:cs.lookup b with
  | none=>exact un.slot b o e (by rw [de z];exact m) f x
  | some ob =>
   have e2:=(n b ob z).2
   rw [e] at e2
   cases e2
   exact⟨o.slots,(hok b _ (I b o z)).1⟩
 ·cases z:cs.lookup b with
  | none=>rw [cH z];exact un.free b o e (by rw [de z];exact m) x
  | some ob=>exact jQ z
 ·have z:=ne e
  rw [cH z];exact un.tups b xs (by rw [de z];exact e)
 ·have z:=ne e
  rw [cH z];exact un.frzs b o w' (by rw [de z];exact e)
 ·have z:=ne e
  obtain⟨m,e2⟩:=un.tbls b ps (by rw [de z];exact e)
  exact⟨m,by rw [cH z];exact e2⟩
end
end L2
namespace L2
open PySem PySem.W PySem.Calls PyProof.Rows
section
variable {X:Cx}{pins:List (Addr×Obj)}{τ:St}{H:Hp}{s:Shared}{cs:List (Addr×Obj)}{Q:VK}
theorem Inv.env0off (I:Inv X pins τ H s) (C:gO cs) (CI:cR H cs):Env0 X.prog X.w X.K X.mg X.base X.A X.stack s (bI H cs):=by
 have e:=I.env0
 have nn:∀b,H b=none->bI H cs b=none:=λb n=>by
  cases z:cs.lookup b with
  | some o=>exact jQ z
  | none=>rw [cH z];exact n
 exact⟨e.frames,e.mod,λb o q=>⟨(e.bs b o q).1,nn b (e.bs b o q).2⟩,e.bsz,e.funs,λb q=>nn b (e.frf b q),e.hok.off C CI,e.bare⟩
theorem qNd {N:List Str}{name qual:Str}{params:Arguments}{body:Expr}{scope:Scope}{f c:Addr}{clos:List (Str×Addr)}{pm ctv:Value}{oc:Obj}{uf uc:HO}{vs:Array Value}{t0:Tok}{ps:List Str}{ws:List V}{us:List Value}{t:TE}{Z:St}
  (I:Inv X pins τ H s) (hdep:X.A.depth<recursionLimit) (hh:X.A.handled=none) (hf:H f=some (.frz (kla_obj name qual params body scope clos pm c ctv) uf)) (hc:H c=some (.frz oc uc)) (hd:oc.data=.fields vs) (hv:vs[1]?=some (.str qual t0))
  (C:gO cs) (CI:cR H cs) (hcl:∀y a,clos.lookup y=some a->∃o,cs.lookup a=some o)
  (hk:scope.kind=.function) (hco:scope.isCoroutine=false) (hgen:scope.isGenerator=false) (hcell:∀y∈scope.names,y.2≠.cell)
  (hbind:bindArgs (kla_fn name qual params body scope clos pm (.ref c) ctv) ⟨us,[]⟩=pure (ps.zip us)) (hloc:∀x∈ps,scope.names.lookup x=some .local) (nd:ps.Nodup) (rv:Vals ws us) (hlen:Z.length=N.length)
  (hZ:∀(i:Nat) (y:Str) (v':V),N[i]?=some y->Z[i]?=some (some v')->(∃j:Nat,ps[j]?=some y/\ws[j]?=some v')∨(scope.names.lookup y=some .free/\∃a o u,clos.lookup y=some a/\cs.lookup a=some o/\o.data=.cell (some u)/\RelV v' u))
  (inj:∀y z a,clos.lookup y=some a->clos.lookup z=some a->y=z) (has:∀y,scope.names.lookup y=some .free->∃a,clos.lookup y=some a)
  (ht:PE (kM X.prog X.w X.K X.mg X.base N qual scope f (.ref c) clos X.A X.stack s (bI H cs)) body t) (hq:t Z (bI H cs) λv H'=>(∀a o,cs.lookup a=some o->H' a=none)->Q v (bR H' cs)) :
  wpAny (model X.prog X.w) X.A (call (.ref f) us) (EP X pins τ Q) X.xe s:=by
 have gc:∀a o,cs.lookup a=some o->s.heap.get? a=some o:=λa o e=>(I.hok a _ (CI a o e)).1
 refine wpAny_call (codeAny_mono (qNR (H:=bI H cs) (I.hok f _ hf).1 ⟨c,oc,vs,t0,rfl,(I.hok c _ hc).1,hd,hv⟩ hdep hh (I.env0off C CI) hk hco hgen hcell hbind hloc nd rv hlen (λi y v' h1 h2=>?_) inj has (λy a e=>?_) ht hq) λr s' h=>?_)
 ·rcases hZ i y v' h1 h2 with z|⟨z,a,o,u,e1,e2,e3,e4⟩
  ·exact .inl z
  ·exact .inr ⟨z,a,u,e1,⟨o,gc a o e2,e3⟩,e4⟩
 ·obtain⟨o,e2⟩:=hcl y a e
  obtain⟨w',e3⟩:=C a o e2
  exact⟨⟨w',o,gc a o e2,e3⟩,jQ e2⟩
 ·cases r with
  | error e=>exact h.elim
  | ok fl =>
   cases fl with
   | ret u=>exact I.after (qSH I.hok C CI (λa o e hb=>by have:=I.stkFree a hb;rw [CI a o e] at this;cases this) h)
   | next=>exact h.elim
   | brk=>exact h.elim
   | cont=>exact h.elim
theorem qNc {CX:g0}{k:Nat}{f:Addr}{fd:FuncData}{ps:List Str}{sp:Sp}{E:XK}{us:List Value}{vs:List V}(F:FnOk X.prog X.w X.K X.mg X.base CX k f fd ps sp) (hr:Room k X.A) (hb:Binds X.K fd ps []) (hE:∀outer H s E e s',¬CX outer H s E e s')
  (I:Inv X pins τ H s) (r:Vals vs us) (C:gO cs) (n:∀a o,cs.lookup a=some o->H a=none/\s.heap.get? a=some o) (nb:∀a o,cs.lookup a=some o->X.base.get? a=none) (nf:∀a o,cs.lookup a=some o->a∉eT X.stack)
  (h:sp vs (bR H cs) (λv H'=>cR H' cs->Q v (bI H' cs)) E):wpAny (model X.prog X.w) X.A (call (.ref f) us) (EP X pins τ Q) X.xe s:=by
 have hl:us.length=ps.length:=by rw [<-r.length];exact F.len _ _ _ _ h
 have e:=I.env0
 have no:∀b,H b=none->cs.lookup b=none->bR H cs b=none:=λb m z=>by rw [de z];exact m
 have e0:Env0 X.prog X.w X.K X.mg X.base X.A X.stack s (bR H cs):=⟨e.frames,e.mod,λb o q=>⟨(e.bs b o q).1,no b (e.bs b o q).2 (by
   cases z:cs.lookup b with
   | none=>rfl
   | some ob=>rw [nb b ob z] at q;cases q)⟩,e.bsz,e.funs,λb q=>no b (e.frf b q) (by
   cases z:cs.lookup b with
   | none=>rfl
   | some ob=>exact Qn q (nf b ob z)),e.hok.on n,e.bare⟩
 refine wpAny_call (codeAny_mono (F.run X.A X.stack s (bR H cs) ⟨us,[]⟩ us vs _ E hr e0 (by have:=hb s us I.kIn (by simpa using hl);simpa using this) r h) λr s' hq=>?_)
 cases r with
 | error e=>exact Qn hq (hE _ _ _ _ _ _)
 | ok fl =>
  cases fl with
  | ret u=>exact I.after (qQL C n hq)
  | next=>exact False.elim hq
  | brk=>exact False.elim hq
  | cont=>exact False.elim hq
end
end L2
namespace L2
open PySem PySem.W PySem.Calls PyProof.Rows
section
variable {X:Cx}{pins:List (Addr×Obj)}{τ:St}{H:Hp}{s:Shared}{Q:VK}
structure CsOk (X:Cx) (τ:St) (H:Hp) (clos:List (Str×Addr)) (cs:List (Addr×Obj)):Prop where
 cell:gO cs
 non:∀a o,cs.lookup a=some o->H a=none
 has:∀y b,clos.lookup y=some b->∃o,cs.lookup b=some o
 inj:∀y z b,clos.lookup y=some b->clos.lookup z=some b->y=z
 val:∀(i:Nat) (y:Str) (v:V) (b:Addr),X.N[i]?=some y->τ[i]?=some (some v)->jh X.env.scope y->clos.lookup y=some b->∃o u,cs.lookup b=some o/\o.data=.cell (some u)/\RelV v u
theorem tO {a b:Addr}{o:Obj}{cs:List (Addr×Obj)}:((b,o)::cs).lookup a=if a=b then some o else cs.lookup a:=by
 rw [iT]
 by_cases e:a=b
 ·subst e;simp
 ·rw [Qm e]
  have:(a == b)=false:=by simpa using e
  rw [this]
theorem yX (I:Inv X pins τ H s):∀(clos:List (Str×Addr)),(∀p∈clos,X.env.cells.lookup p.1=some p.2)->∃cs:List (Addr×Obj),gO cs/\(∀a o,cs.lookup a=some o->s.heap.get? a=some o/\∃y,X.env.cells.lookup y=some a)/\∀p∈clos,∃o,cs.lookup p.2=some o
 | [],_=>⟨[],λa o e=>(nomatch e),λa o e=>(nomatch e),λp h=>(nomatch h)⟩
 | (y,b)::clos,h=>by
  obtain⟨cs,h1,h2,h3⟩:=yX I clos λp hp=>h p (bC _ hp)
  have hb:=h (y,b) bh
  obtain⟨v,o,ho,hd⟩:=I.cell y b hb
  refine⟨(b,o)::cs,λa o' e=>?_,λa o' e=>?_,λp hp=>?_⟩
  ·rw [tO] at e
   split at e
   ·cases e;exact⟨v,hd⟩
   ·exact h1 a o' e
  ·rw [tO] at e
   split at e
   ·rename_i z;cases e;subst z;exact⟨ho,y,hb⟩
   ·exact h2 a o' e
  ·rw [tO]
   split
   ·exact⟨_,rfl⟩
   ·rename_i z
    rcases yag.mp hp with e|e
    ·subst e;exact Qn rfl z
    ·exact h3 p e
theorem qOc (I:Inv X pins τ H s) {clos:List (Str×Addr)}(hc:∀p∈clos,X.env.cells.lookup p.1=some p.2) (hk:∀y b,clos.lookup y=some b->X.env.kindOf y=some .cell∨X.env.kindOf y=some .free) :
  ∃cs,CsOk X τ H clos cs/\(∀a o,cs.lookup a=some o->s.heap.get? a=some o/\H a=none)/\∀a o,cs.lookup a=some o->∃y,X.env.cells.lookup y=some a:=by
 obtain⟨cs,h1,h2,h3⟩:=yX I clos hc
 have non:∀a o,cs.lookup a=some o->H a=none:=λa o e=>by obtain⟨_,y,hy⟩:=h2 a o e;exact I.freeC y a hy
 refine⟨cs,⟨h1,non,λy b e=>h3 (y,b) (dg e),λy z b e1 e2=>I.ok.inj y z b (hc (y,b) (dg e1)) (hc (z,b) (dg e2)),λi y v b e1 e2 e3 e4=>?_⟩,λa o e=>⟨(h2 a o e).1,non a o e⟩,λa o e=>(h2 a o e).2⟩
 obtain⟨o,eo⟩:=h3 (y,b) (dg e4)
 obtain⟨m,hm,hl⟩:=I.loc
 obtain⟨u,ru,lk⟩:=hl i y v e1 e2 e3
 have hb:=hc (y,b) (dg e4)
 rcases lk with ⟨kl,_⟩|⟨kc,c,ec,o2,ho2,hd2⟩
 ·rcases hk y b e4 with z|z
  ·rw [show X.env.kindOf y=some .local from kl] at z;cases z
  ·rw [show X.env.kindOf y=some .local from kl] at z;cases z
 ·have hb:X.env.cells.lookup y=some b:=hb
  rw [hb] at ec
  cases ec
  have:=(h2 b o eo).1
  rw [ho2] at this
  cases this
  exact⟨_,u,eo,hd2,ru⟩
end
section
variable {X:Cx}{CX:g0}{k:Nat}{f P c:Addr}{fd:FuncData}{ps:List Str}{sp:Sp}{E:XK}{x:Str}{p pos lp:Pos}{ea le:Expr}{er:List Expr}{tA:TA}{la:Arguments}{lsc:Scope}{clos:List (Str×Addr)}
def qO7 (X:Cx) (sp:Sp) (E:XK) (tA:TA) (la:Arguments) (le:Expr) (lsc:Scope) (clos:List (Str×Addr)) (lp:Pos) (P:Addr):TE:=fun τ H Q =>
 tA τ H λvs H2=>ox X la le lsc clos lp P τ H2 λvf H3=>∀cs,CsOk X τ H3 clos cs->sp (vs++[vf]) (bR H3 cs) (λv H'=>cR H' cs->Q v (bI H' cs)) E
theorem qKf (F:FnOk X.prog X.w X.K X.mg X.base CX k f fd ps sp) (hr:Room k X.A) (hg:Gl X x) (hm:X.mg x=some (.ref f)) (hk:PySem.W.keepIn X.K (.ref f)=true) (hb:Binds X.K fd ps []) (hE:∀outer H s E e s',¬CX outer H s E e s')
  (hc:X.Ok->∀p∈clos,X.env.cells.lookup p.1=some p.2) (hkc:∀y b,clos.lookup y=some b->X.env.kindOf y=some .cell∨X.env.kindOf y=some .free) (hst:∀y,X.fn y=true)
  (hdb:(x == ("__debug__":Str))=false) (hs1:starEach (ea::er) X.env=(false,eval ea X.env)::starEach er X.env) (hpl:(backTo pos (starEach er X.env)).any (·.1)=false)
  (hp:PA X (ea::er) (fun τ H Q=>tA τ H λvs H2=>ox X la le lsc clos lp P τ H2 λvf H3=>Q (vs++[vf]) H3)) :
  PE X (.Call (.Name x p) (ea::er) [] pos) (qO7 X sp E tA la le lsc clos lp P):=by
 intro pins s Z H Q I h
 refine wpAny_Call_Name_kw (sR (pos:=p) I hg hm ?_ hdb)
 refine PySem.W.callWith_K (h₀:=X.base) I.ok.mod.kin hk (aw (hp pos pins s Z H (λvs H3=>∀cs,CsOk X Z H3 clos cs->sp vs (bR H3 cs) (λv H'=>cR H' cs->Q v (bI H' cs)) E) I h) λus s1 ⟨vs,H1,I1,r,q⟩=>⟨I1.kIn,?_⟩) hs1 hpl
 obtain⟨cs,ok,at0,cl⟩:=qOc I1 (hc I1.ok) hkc
 refine qNc F hr hb hE I1 r ok.cell (λa o e=>⟨(at0 a o e).2,(at0 a o e).1⟩) (λa o e=>?_) (λa o e hb=>?_) (q cs ok)
 ·obtain⟨y,hy⟩:=cl a o e
  have hge:=I1.ok.cab y a (hst y) hy
  cases z:X.base.get? a with
  | none=>rfl
  | some ob=>exact Qn (bG (Qi z) (aM I1.ok.bsz hge)) (fA _)
 ·obtain⟨y,hy⟩:=cl a o e
  have hge:=I1.ok.cab y a (hst y) hy
  have hne:=I1.cne y a hy
  rcases I1.ok.stk with z|⟨z,z2⟩
  ·rw [z] at hb
   obtain⟨_,o',ho',_⟩:=I1.ok.funs.mem hb
   exact Qn (bG (Qi ho') hge) (fA _)
  ·rw [z] at hb
   have hb:a∈eT (X.env::X.outer):=hb
   unfold eT at hb
   rw [nR,z2] at hb
   rcases yag.mp hb with q|q
   ·exact hne q
   ·obtain⟨_,o',ho',_⟩:=I1.ok.funs.mem q
    exact Qn (bG (Qi ho') hge) (fA _)
end
end L2
namespace L2
open PySem PySem.W PySem.Calls PyProof.Rows
section
variable {prog:Program}{w:World}{A:Around}{E:Value->Shared->Prop}
theorem qOa {it l:Addr}{items:Array Value}(hne:l≠it):∀(n i:Nat) (s:Shared) (Q:List Value->Shared->Prop),s.heap.IsListIter it l i->s.heap.IsList l items->i+n=items.size ->
  (∀h',h'.IsListIter it l items.size->h'.IsList l items->Heap.SameBut it s.heap h'->Q (items.toList.drop i) { s with heap:=h' })->wpAny (model prog w) A (draw (.ref it) n) Q E s:=by
 intro n
 induction n with
 | zero =>
  intro i s Q hi hl e k
  obtain rfl:i=items.size:=by omega
  have:=k s.heap hi hl (Heap.SameBut.refl ..)
  rw [List.drop_eq_nil_of_le (by rw [cw];exact ar _)] at this
  exact Qd this
 | succ n ih =>
  intro i s Q hi hl e k
  have hlt:i<items.size:=by omega
  show wpAny _ _ (pyNext (.ref it) >>= _) Q E s
  refine Qc (wpAny_pyNext_list_item hi hl (x:=items[i]) (lW hlt) λh1 hi1 sb1=>?_)
  have hl1:h1.IsList l items:=hl.extBut sb1.extBut hne
  refine Qc (wpAny_holding (ih (i+1) { s with heap:=h1 } _ hi1 hl1 (by omega) λh2 hi2 hl2 sb2=>Qd ?_))
  have:=k h2 hi2 hl2 (sb1.trans sb2)
  rw [kD (by rw [cw];exact hlt)] at this
  simpa using this
theorem qOK {s:Shared}{l:Addr}{items:Array Value}{Q:List Value->Shared->Prop}(hh:A.handled=none) (hl:s.heap.IsList l items)
  (k:∀h',Heap.ExtBut s.heap.objs.size s.heap h'->Q items.toList { s with heap:=h' }):wpAny (model prog w) A (unpackItems (.ref l) items.size none) Q E s:=by
 have hlt:l≠s.heap.objs.size:=by obtain⟨o,ho,_⟩:=hl;exact bK (Qi ho)
 unfold unpackItems notIterableAtAll
 refine Qc (Qc (wpAny_specialOf hl.typeIs slot_list_iter.lookup (Qd ?_)))
 rw [Qm (by simp)]
 refine Qc (wpAny_holding (wpAny_pyIter_list hl ?_))
 have hl0:=hl.push { cls:=.type "list_iterator",data:=.fields #[.ref l,.int 0 0] }
 refine Qc (wpAny_holding (qOa hlt items.size 0 _ _ ⟨_,Qh _ rfl,rfl,rfl⟩ hl0 (by omega) λh1 hi1 hl1 sb1=>?_))
 rw [kC,Qm (by simp)]
 refine Qc (wpAny_holding (wpAny_pyNext_list_end hh hi1 hl1 (Array.getElem?_eq_none (ar _)) λh2 eb=>?_))
 rw [Qm (by simp)]
 exact Qd (k h2 λb o hb e=>eb b o hb (sb1.extBut b o hb (Qg _ e)))
end
section
variable {X:Cx}{pos:Pos}
noncomputable def qTJ (K:Qb) (n:Nat) (t:iA):TG:=λv Z H Q=>∃a xs,v=.ref a/\SqL K H a xs/\xs.length=n/\t xs Z H Q
theorem wH {es:List Expr}{k:Nat}{t:iA}{n:Nat}(hc:X.calm=true) (h:lN X es t) (hn:(assignEach es X.env).length=n) (hst:(assignEach es X.env).findIdx? (·.1)=none):PG X (.Tuple es k pos) (qTJ X.K n t):=by
 intro pins s Z H v u Q I r hw
 obtain⟨a,xs,e1,hq,hl,hw⟩:=hw
 subst e1
 cases r
 obtain⟨its,rv,ht,hz⟩:=I.list hq
 rw [assign_Tuple]
 refine Qc (wpAny_standAt ?_)
 unfold unpack
 rw [hst,show (assignEach es X.env).length=its.toArray.size by rw [hn,<-hl,rv.length,aH]]
 refine Qc (wpAny_holding (qOK (I.ok.hd hc) ht.isList λh' hx=>?_))
 have I1:Inv X pins Z H { s with heap:=h' }:=I.kept (t':=s.toks) λb o e=>hx b o (bK (Qi e)) e
 exact h pins _ Z H xs _ Q I1 (by simpa using rv) hw
end
end L2
namespace Dw
open PySem L2
structure LamD where
 la:Arguments
 e:Expr
 sc:Scope
 pos:Pos
 q:Str
 P:Addr
noncomputable def lamL:LamD:=⟨⟨[],[⟨"told",none,⟨104,37,104,41⟩⟩,⟨"other",none,⟨104,43,104,48⟩⟩],none,[],[],none,[]⟩,.Call (.Name "pairs_word" ⟨104,50,104,60⟩) [.Name "told" ⟨104,61,104,65⟩,.Name "other" ⟨104,67,104,72⟩,.Name "far" ⟨104,74,104,77⟩,.Name "beat" ⟨104,79,104,83⟩] [] ⟨104,50,104,84⟩,{ kind:=.function,names:=[("told",.local),("other",.local),("beat",.free),("far",.free),("pairs_word",.globalImplicit)],isGenerator:=false,isCoroutine:=false,more:=[] },⟨104,30,104,84⟩,"near_pairs.<locals>.<lambda>",188⟩
def lamX:List (Nat×LamD):=[(42,lamL)]
def tbs:List (Addr×Pos×Str):=lamX.map λp=>(p.2.P,p.2.pos,p.2.q)
def TB (H:Hp):Prop:=∀t∈tbs,H t.1=some (.tab t.2.1 t.2.2)
theorem TB.same {H H':Hp}(h:TB H) (s:Same H H'):TB H':=λt m=>s _ _ (h t m)
end Dw
namespace Dw
open PySem PySem.Spec PyProof.Rows L2
def kj (lo st:Int) (n:Nat):It:={ go:=λi _=>i<n,yld:=λi H x H'=>H'=H/\x=V.int (lo+(i:Nat) * st),stop:=λi _=>n<=i }
theorem xC (a b c:Int):Builtin.Range.rangeSize a b c=fH a b c:=rfl
theorem xB (a b c:Int) (h:c≠0):0<=fH a b c/\fH a b c<=(b - a).natAbs:=by
 unfold fH
 split
 ·split
  ·have h1:0<=(b - a - 1) / c:=nN (by omega) (by omega)
   have h2:(b - a - 1) / c<=b - a - 1:=Int.ediv_le_self _ (by omega)
   omega
  ·omega
 ·split
  ·have h1:0<=(a - b - 1) / -c:=nN (by omega) (by omega)
   have h2:(a - b - 1) / -c<=a - b - 1:=Int.ediv_le_self _ (by omega)
   omega
  ·omega
theorem qHF (h1:-(2^62)<=a) (h2:a<2^62) (h3:-(2^62)<=b) (h4:b<2^62) (h5:c≠0) (h6:c.natAbs<2^30):Builtin.Range.small a b c=true:=by
 have hb:=xB a b c h5
 unfold Builtin.Range.small
 rw [xC]
 generalize fH a b c=z at hb
 have f:∀x:Int,-(2^63)<=x->x<2^63->Builtin.Range.rangeFitsLong x=true:=by
  intro x p q
  simp [Builtin.Range.rangeFitsLong];omega
 rw [f a (by omega) (by omega),f b (by omega) (by omega),f c (by omega) (by omega),f z (by omega) (by omega)]
 simp only [Bool.true_and,dZ]
 right
 split
 ·exact f _ (by omega) (by omega)
 ·exact f _ (by omega) (by omega)
theorem zE {K:Qb}{tg:Expr}(j:Addr) (lo st:Int) (n:Nat):Turn P w K tg (kj lo st n) [j] j (λi h=>IsRangeIter h j (lo+(i:Nat) * st) ((n:Int) - (i:Nat)) st) where
 mem:=by simp
 obj:=λi h y b hb=>by
  have e:b=j:=by simpa using hb
  subst e
  exact⟨_,y,λv z=>by
   have z':Data.fields _=Data.cell v:=z
   cases z'⟩
 keep:=λi h h' y k=>k j (by simp) _ y
 item:=by
  intro X hP hw hK hc i pins s Z H E I hf y hg
  subst hP hw hK
  obtain⟨u0,u1,u2,u3,u4,u5⟩:=hf j (by simp)
  have W:=Walks.range (prog:=X.prog) (w:=X.w) (I.ok.hd hc) j lo st n
  refine W.item i s _ _ hg y λv h' tk hv y' kk=>?_
  obtain⟨t,rfl⟩:=hv
  have J:Inv X pins Z H { s with heap:=h',toks:=tk }:=I.turned (λb o hb e=>kk b o (by simpa using hb) e) u0 u1 u3 u4 u5
  exact⟨_,rfl,mw (s:={ s with heap:=h',toks:=tk }) (n:="range_iterator") y' rfl rfl (by decide) ⟨.int (lo+i * st),H,J,⟨t,rfl⟩,⟨rfl,rfl⟩,y',λb hb=>(hf b hb).1⟩⟩
 done:=by
  intro X hP hw hK hc i pins s Z H E I hf y hg
  subst hP hw hK
  obtain⟨u0,u1,u2,u3,u4,u5⟩:=hf j (by simp)
  exact wpAny_pyNext_range_end (I.ok.hd hc) y (by have:n<=i:=hg;omega) λh' eb=>⟨rfl,I.turned (t':=s.toks) (λb o hb e=>eb b o hb e) u0 u1 u3 u4 u5⟩
 self:=λ_ _ _ _ _ y h=>wpAny_pyIter_rangeiter y h
section
variable {X:Cx}{tg:Expr}
theorem qO9 {R:It->Hp->Prop}{E:Value->Shared->Prop}{lo hi st:Int}{t u v:Tok}{tk:Nat}(I:L2.Inv X pins Z H s) (h1:-(2^62)<=lo) (h2:lo<2^62) (h3:-(2^62)<=hi) (h4:hi<2^62) (h5:st≠0) (h6:st.natAbs<2^30)
  (q:R (kj lo st (fH lo hi st).toNat) H):wpAny (model X.prog X.w) X.A (pyIter (.ref s.heap.objs.size)) (qv X pins Z tg R) E { s with heap:=s.heap.push { cls:=.type "range",data:=.fields #[.int lo t,.int hi u,.int st v] },toks:=tk }:=by
 refine wpAny_pyIter_range (IsRange.new ..) (qHF h1 h2 h3 h4 h5 h6) ?_
 have J:Inv X pins Z H { s with heap:=s.heap.push { cls:=.type "range",data:=.fields #[.int lo t,.int hi u,.int st v] },toks:=tk }:=I.kept λb o e=>Qg _ e
 refine⟨(s.heap.push { cls:=.type "range",data:=.fields #[.int lo t,.int hi u,.int st v] }).objs.size,[(s.heap.push { cls:=.type "range",data:=.fields #[.int lo t,.int hi u,.int st v] }).objs.size],_,_,H,rfl,
  J.kept (t':=tk) λb o e=>Qg _ e,zE _ lo st (fH lo hi st).toNat,?_,λb hb=>?_,q⟩
 ·have e1:lo+((0:Nat):Int) * st=lo:=by simp
  have e2:(((fH lo hi st).toNat:Nat):Int) - ((0:Nat):Int)=Builtin.Range.rangeSize lo hi st:=by
   have:=xB lo hi st h5
   rw [xC];omega
  show IsRangeIter _ _ (lo+((0:Nat):Int) * st) ((((fH lo hi st).toNat:Nat):Int) - ((0:Nat):Int)) st
  rw [e1,e2]
  exact Qh _ rfl
 ·have e:b=(s.heap.push { cls:=.type "range",data:=.fields #[.int lo t,.int hi u,.int st v] }).objs.size:=by simpa using hb
  subst e
  exact J.fpOk (ar _) (J.hok.fresh (ar _))
def qSl (ta:TA):TI:=fun Z H R=>ta Z H λvs H1=>∃i j c:Int,vs=[.int i,.int j,.int c]/\(-(2^62)<=i/\i<2^62/\-(2^62)<=j/\j<2^62/\c≠0/\c.natAbs<2^30)/\R (kj i c (fH i j c).toNat) H1
theorem qHY (x y:Int) (h:y.natAbs<2^30):Builtin.divisionGoesByPylong x y=false:=by
 unfold Builtin.divisionGoesByPylong
 simp only [Bool.and_eq_false_iff,decide_eq_false_iff_not]
 left
 split
 ·decide
 ·have:y.natAbs.log2<30:=by
   by_cases h0:y.natAbs=0
   ·rw [h0];decide
   ·exact (nF h0).mpr h
  omega
theorem qHP {ta:TA}{p pos:Pos}(hg:Gl X "range") (hm:X.mg "range"=none) (ha:PA X [a,b,c] ta) (hs:starEach [a,b,c] X.env=[(false,eval a X.env),(false,eval b X.env),(false,eval c X.env)]) (hs2:starEach [b,c] X.env=[(false,eval b X.env),(false,eval c X.env)]) :
  PI X tg (.Call (.Name "range" p) [a,b,c] [] pos) (qSl ta):=by
 intro pins s Z H R I h
 refine Call_ (ik I hg hm boot_range (iV (aw (ha pos pins s Z H _ I h) λus s1 ⟨vs,H1,J,r1,q1⟩=>?_) (by rw [hs,hs2]) (by rw [hs2];rfl)))
 obtain⟨i,j,k,e,⟨q1,q2,q3,q4,q5,q6⟩,q⟩:=q1
 subst e
 cases r1 with
 | cons r rr =>
  cases rr with
  | cons r' rr =>
   cases rr with
   | cons r'' rr =>
    cases rr
    obtain⟨t,rfl⟩:=r
    obtain⟨t',rfl⟩:=r'
    obtain⟨t'',rfl⟩:=r''
    exact call_range_3 q5 (qO9 J q1 q2 q3 q4 q5 q6 q) (.inl (qHY _ _ q6))
end
end Dw
namespace Dw
open PySem PySem.Spec PyProof.Rows L2 HT
section
variable {prog:Program}{w:World}{A:Around}{E:Value->Shared->Prop}{s:Shared}
theorem qIx (ht:IsTup s.heap t items) (h:Q true s):wpAny (model prog w) A (Builtin.Tuple.tupleIsExact (.ref t)) Q E s:=by
 unfold Builtin.Tuple.tupleIsExact
 exact Qc (wpAny_typeOf ht.typeIs (Qd h))
theorem qHd {vl vu:Value}{lo hi:Option Int}{Q:Value->Shared->Prop}(ht:IsTup s.heap t items) (hs:s.heap.IsSliceOf sl vl vu .none) (pl:IsPart vl lo) (pu:IsPart vu hi)
  (hw:sIx items.size 0 lo=0/\sIx items.size items.size hi=items.size) (h:Q (.ref t) s):wpAny (model prog w) A (getItem (.ref t) (.ref sl)) Q E s:=by
 obtain⟨os,hos,hcs,hds⟩:=id hs
 have hTs:s.TypeIs (.ref sl) "slice":=⟨os,hos,hcs⟩
 unfold getItem
 try with_reducible refine wpAny_holding ?_
 first|refine Qc (Qd ?_)|skip
 refine Qc (wpAny_sequenceKey ht.typeIs (by decide) ?_)
 refine Qc (wpAny_callSpecial?_slot (name:=Qa "__getitem__") ht.typeIs yaO
  (wpAny_call_entry yaO ht.typeIs entry_tuple_getitem ?_ (args_tuple_getitem _ _)))
 show wpAny _ _ (Builtin.Tuple.tupleItemsOf (.ref t) >>= _) _ _ s
 refine Qc (tupleItemsOf_ ht (Qc (wpAny_typeOf hTs ?_)))
 rw [Ql (by decide)]
 refine Qc (AH hs pl pu ?_)
 have yes:(((sIx items.size 0 lo:Nat):Int) == 0&&(1:Int) == 1&&(sIx items.size items.size hi - sIx items.size 0 lo) == items.size)=true:=by
  rw [hw.1,hw.2];simp
 show wpAny _ _ (if (((sIx items.size 0 lo:Nat):Int) == 0&&(1:Int) == 1&&(sIx items.size items.size hi - sIx items.size 0 lo) == items.size)=true then _ else _) _ _ s
 rw [Ql yes]
 refine Qc (qIx ht ?_)
 rw [Ql rfl]
 refine Qc (wpAny_rule ?_)
 first
  | exact Qc (Qd (Qd ⟨_,rfl,Qd h⟩))
  | exact Qc (Qd ⟨_,rfl,Qd h⟩)
  | exact Qd ⟨_,rfl,Qd h⟩
end
section
variable {X:Cx}
def qTu (K:Qb):V->Option Int->Option Int->Hp->VK->Prop:=λx lo hi H Q=>∃a xs,x=.ref a/\SqT K H a xs/\(HT.sIx xs.length 0 lo=0/\HT.sIx xs.length xs.length hi=xs.length)/\Q (.ref a) H
theorem qPk:SlR X (qTu X.K):=by
 intro pins s Z H x v vl vu lo hi sl Q I rx hs pl pu h
 obtain⟨a,xs,rfl,hx,hw,q⟩:=h
 cases rx
 obtain⟨its,r,ht,hz⟩:=I.tuple hx
 have hlen:its.toArray.size=xs.length:=by rw [aH];exact r.length.symm
 exact⟨"tuple",_,yaO.lookup,ht.typeIs,qHd ht hs pl pu (by rw [hlen];exact hw) ⟨.ref a,H,I,rfl,q⟩⟩
theorem qOe (ht:IsTup s.heap t #[]) (hb:IsTup s.heap b ws) (h:Q (.ref b) s):wpAny (model prog w) A (binaryOp .Add (.ref t) (.ref b)) Q E s:=by
 obtain⟨⟨cls,dd,data,sl⟩,ho,hc,n,hd⟩:=id ht
 obtain⟨⟨cls2,dd2,data2,sl2⟩,ho2,hc2,n2,hd2⟩:=id hb
 simp only at hc hd hc2 hd2
 subst hc hd hc2 hd2
 exact concat_meets ⟨_,ho,rfl⟩ ⟨_,ho2,rfl⟩ noFill_tuple_add seq_tuple_add qO qQ (qS _ _) (tuple_addW0 t b #[] ws n n2 dd dd2 sl sl2 rfl) ⟨ho,ho2,h⟩
theorem op_catN:OpR X (binaryOp .Add) (λx y H Q=>∃a b ys,x=.ref a/\y=.ref b/\SqT X.K H a []/\SqT X.K H b ys/\Q (.ref b) H):=by
 intro pins s Z H x y v u Q I rx ry h
 obtain⟨a,b,ys,rfl,rfl,ha,hb,q⟩:=h
 cases rx
 cases ry
 obtain⟨its,r1,p1,_⟩:=I.tuple ha
 obtain⟨its2,r2,p2,_⟩:=I.tuple hb
 cases r1
 exact qOe p1 p2 ⟨.ref b,H,I,rfl,q⟩
end
end Dw
namespace Dw
open PySem PySem.Spec PyProof.Rows L2
theorem qJD {K:Qb}{tg:Expr}(j:Addr) (lo st:Int) (n:Nat):Turn P w K tg (kj lo st n) [j] j (λi h=>IsLongIter h j (lo+(i:Nat) * st) ((n:Int) - (i:Nat)) st) where
 mem:=by simp
 obj:=λi h y b hb=>by
  have e:b=j:=by simpa using hb
  subst e
  exact⟨_,y,λv z=>by
   have z':Data.fields _=Data.cell v:=z
   cases z'⟩
 keep:=λi h h' y k=>k j (by simp) _ y
 item:=by
  intro X hP hw hK hc i pins s Z H E I hf y hg
  subst hP hw hK
  obtain⟨u0,u1,u2,u3,u4,u5⟩:=hf j (by simp)
  have W:=Walks.longrange (prog:=X.prog) (w:=X.w) (I.ok.hd hc) j lo st n
  refine W.item i s _ _ hg y λv h' tk hv y' kk=>?_
  obtain⟨t,rfl⟩:=hv
  have J:Inv X pins Z H { s with heap:=h',toks:=tk }:=I.turned (λb o hb e=>kk b o (by simpa using hb) e) u0 u1 u3 u4 u5
  exact⟨_,rfl,mw (s:={ s with heap:=h',toks:=tk }) (n:="longrange_iterator") y' rfl rfl (by decide) ⟨.int (lo+i * st),H,J,⟨t,rfl⟩,⟨rfl,rfl⟩,y',λb hb=>(hf b hb).1⟩⟩
 done:=by
  intro X hP hw hK hc i pins s Z H E I hf y hg
  subst hP hw hK
  obtain⟨u0,u1,u2,u3,u4,u5⟩:=hf j (by simp)
  exact wpAny_pyNext_long_end (I.ok.hd hc) y (by have:n<=i:=hg;omega) λh' eb=>⟨rfl,I.turned (t':=s.toks) (λb o hb e=>eb b o hb e) u0 u1 u3 u4 u5⟩
 self:=λ_ _ _ _ _ y h=>wpAny_pyIter_longiter y h
section
variable {X:Cx}{tg:Expr}
theorem qQf {R:It->Hp->Prop}{E:Value->Shared->Prop}{lo hi:Int}{t u v:Tok}{tk:Nat}(I:L2.Inv X pins Z H s)
  (q:R (kj lo 1 (hi - lo).toNat) H):wpAny (model X.prog X.w) X.A (pyIter (.ref s.heap.objs.size)) (qv X pins Z tg R) E { s with heap:=s.heap.push { cls:=.type "range",data:=.fields #[.int lo t,.int hi u,.int 1 v] },toks:=tk }:=by
 have J:Inv X pins Z H { s with heap:=s.heap.push { cls:=.type "range",data:=.fields #[.int lo t,.int hi u,.int 1 v] },toks:=tk }:=I.kept λb o e=>Qg _ e
 have e1:lo+((0:Nat):Int) * 1=lo:=by simp
 have e2:(((hi - lo).toNat:Nat):Int) - ((0:Nat):Int)=Builtin.Range.rangeSize lo hi 1:=by rw [rangeSize_one];split<;>omega
 have fp:∀b∈[(s.heap.push { cls:=.type "range",data:=.fields #[.int lo t,.int hi u,.int 1 v] }).objs.size],dS X pins H b:=λb hb=>by
  have e:b=(s.heap.push { cls:=.type "range",data:=.fields #[.int lo t,.int hi u,.int 1 v] }).objs.size:=by simpa using hb
  subst e
  exact J.fpOk (ar _) (J.hok.fresh (ar _))
 cases hsm:Builtin.Range.small lo hi 1 with
 | true =>
  refine wpAny_pyIter_range (IsRange.new ..) hsm ⟨_,[(s.heap.push { cls:=.type "range",data:=.fields #[.int lo t,.int hi u,.int 1 v] }).objs.size],_,_,H,rfl,J.kept (t':=tk) λb o e=>Qg _ e,zE _ lo 1 (hi - lo).toNat,?_,fp,q⟩
  show IsRangeIter _ _ (lo+((0:Nat):Int) * 1) ((((hi - lo).toNat:Nat):Int) - ((0:Nat):Int)) 1
  rw [e1,e2]
  exact Qh _ rfl
 | false =>
  refine wpAny_pyIter_longrange (IsRange.new ..) hsm ⟨_,[(s.heap.push { cls:=.type "range",data:=.fields #[.int lo t,.int hi u,.int 1 v] }).objs.size],_,_,H,rfl,J.kept (t':=tk) λb o e=>Qg _ e,qJD _ lo 1 (hi - lo).toNat,?_,fp,q⟩
  show IsLongIter _ _ (lo+((0:Nat):Int) * 1) ((((hi - lo).toNat:Nat):Int) - ((0:Nat):Int)) 1
  rw [e1,e2]
  exact Qh _ rfl
def qSk (ta:TA):TI:=fun Z H R=>ta Z H λvs H1=>∃i j:Int,vs=[.int i,.int j]/\R (kj i 1 (j - i).toNat) H1
theorem qHO (hg:Gl X "range") (hm:X.mg "range"=none) (ha:PA X [a,b] ta) (hs:starEach [a,b] X.env=[(false,eval a X.env),(false,eval b X.env)]) (hs2:starEach [b] X.env=[(false,eval b X.env)]) :
  PI X tg (.Call (.Name "range" p) [a,b] [] pos) (qSk ta):=by
 intro pins s Z H R I h
 refine Call_ (ik I hg hm boot_range (iV (aw (ha pos pins s Z H _ I h) λus s1 ⟨vs,H1,I1,r1,q1⟩=>?_) (by rw [hs,hs2]) (by rw [hs2];rfl)))
 obtain⟨i,j,e,q⟩:=q1
 subst e
 cases r1 with
 | cons r rr =>
  cases rr with
  | cons r' rr =>
   cases rr
   obtain⟨t,rfl⟩:=r
   obtain⟨t',rfl⟩:=r'
   exact call_range_2 (qQf I1 q)
theorem zy:∀{xs ys:List Int},xs.Perm ys->xs.Pairwise (·<=·)->ys.Pairwise (·<=·)->xs=ys
 | [],ys,h,_,_=>h.nil_eq
 | x::xs,[],h,_,_=>Qn h.length_eq (by simp)
 | x::xs,y::ys,h,h1,h2=>by
  have a1:x∈y::ys:=h.subset bh
  have a2:y∈x::xs:=h.symm.subset bh
  have b1:y<=x:=(yag.mp a1).elim (λe=>by omega) λm=>(ybo.mp h2).1 x m
  have b2:x<=y:=(yag.mp a2).elim (λe=>by omega) λm=>(ybo.mp h1).1 y m
  have e:x=y:=by omega
  subst e
  rw [zy (List.perm_cons _ |>.mp h) (ybo.mp h1).2 (ybo.mp h2).2]
end
end Dw
namespace Dw
open PySem PySem.Spec PyProof.Rows L2
abbrev Fz:=Addr->Prop
def qTP (K:Qb) (a:Addr) (xs:List V):Prop:=
 ∃(o:Obj) (its:Array Value) (n:Nat),K.lookup a=some o/\o.cls=.type "list"/\o.dict=none/\o.data=.seq its n/\its.size<=sizeLine/\Vals xs its.toList
def LsR (K:Qb) (H:Hp) (F:Fz) (a:Addr) (xs:List V):Prop:=(F a/\Rd H a (.lst xs))∨qTP K a xs
theorem LsR.sq {K:Qb}{H:Hp}{F:Fz}{a:Addr}{xs:List V}(h:LsR K H F a xs):SqL K H a xs:=h.elim (λh=>.inl h.2) .inr
noncomputable def dk (ks:List Int):List (dE×V):=ks.map λk=>(Sum.inl k,V.bl true)
@[simp] noncomputable def jA:D->Bool
 | .dct _ _=>true
 | _=>false
def InsR (K:Qb) (H:Hp) (a:Addr) (kn:Kn) (vs:List V):Prop:=
 ∃(dx:Addr) (fs:List (Str×V)),H a=some (.ins kn.c dx fs)/\Cls K kn.c/\(∀(j:Nat) (f:Str),kn.ns[j]?=some f->qQ9 K kn.c f/\∃u,fs.lookup f=some u/\vs[j]?=some u)/\∀g,g∉kn.ns->fs.lookup g=none
def CloR (H:Hp) (a:Addr) (kn:Kn) (vs:List V):Prop:=
 kn.ns=[]/\∃(L:LamD) (clos:List (Str×Addr)) (pm ctv:Value) (c:Addr) (uf:HO) (oc:Obj) (uc:HO) (fs:Array Value) (t:Tok) (cs:List (Addr×Obj)),
  lamX.lookup (kn.c - CL)=some L/\H a=some (.frz (PySem.W.kla_obj "<lambda>" L.q L.la L.e L.sc clos pm c ctv) uf)/\H c=some (.frz oc uc)/\oc.data=.fields fs/\fs[1]?=some (.str L.q t) /\
  gO cs/\cR H cs/\(∀y b,clos.lookup y=some b->∃o,cs.lookup b=some o)/\(∀y z b,clos.lookup y=some b->clos.lookup z=some b->y=z)/\(∀y,L.sc.names.lookup y=some .free->∃b,clos.lookup y=some b) /\
  vs.length=(aB L.sc).length/\∀(i:Nat) (y:Str) (v:V),(aB L.sc)[i]?=some y->vs[i]?=some v->∃b o u,clos.lookup y=some b/\cs.lookup b=some o/\o.data=.cell (some u)/\RelV v u
def ObjR (K:Qb) (H:Hp) (a:Addr) (kn:Kn) (vs:List V):Prop:=if CL<=kn.c then CloR H a kn vs else InsR K H a kn vs
mutual
def RD (K:Qb) (H:Hp) (F:Fz):D->V->Prop
 | .non,v=>v=.non
 | .bl b,v=>v=.bl b
 | .int i,v=>v=.int i
 | .str x,v=>v=.str x
 | .tup ds,v=>∃a vs,v=.ref a/\SqT K H a vs/\RDs K H F ds vs
 | .lst ds,v=>∃a vs,v=.ref a/\LsR K H F a vs/\RDs K H F ds vs
 | .dct _ _,_=>False
 | .obj kn ds,v=>∃a vs,v=.ref a/\ObjR K H a kn vs/\RDs K H F ds vs
def RDs (K:Qb) (H:Hp) (F:Fz):List D->List V->Prop
 | [],vs=>vs=[]
 | d::ds,vs=>∃v r,vs=v::r/\RD K H F d v/\RDs K H F ds r
end
structure Keep (H:Hp) (F:Fz) (H':Hp) (F':Fz):Prop where
 tups:∀a xs,Rd H a (.tup xs)->Rd H' a (.tup xs)
 lsts:∀a xs,F a->Rd H a (.lst xs)->F' a/\Rd H' a (.lst xs)
 inss:∀a C dx fs,H a=some (.ins C dx fs)->H' a=some (.ins C dx fs)
 frzs:∀a o u,H a=some (.frz o u)->H' a=some (.frz o u)
theorem InsR.mono {K:Qb}{H H':Hp}{a:Addr}{kn:Kn}{vs:List V}(k:∀a C dx fs,H a=some (.ins C dx fs)->H' a=some (.ins C dx fs)):InsR K H a kn vs->InsR K H' a kn vs:=
 λ⟨dx,fs,h1,h2⟩=>⟨dx,fs,k _ _ _ _ h1,h2⟩
theorem CloR.mono {H H':Hp}{a:Addr}{kn:Kn}{vs:List V}(k:∀a o u,H a=some (.frz o u)->H' a=some (.frz o u)):CloR H a kn vs->CloR H' a kn vs:=
 λ⟨n,L,clos,pm,ctv,c,uf,oc,uc,fs,t,cs,h1,h2,h3,h4,h5,h6,h7,h8⟩=>⟨n,L,clos,pm,ctv,c,uf,oc,uc,fs,t,cs,h1,k _ _ _ h2,k _ _ _ h3,h4,h5,h6,λb o e=>k _ _ _ (h7 b o e),h8⟩
theorem ObjR.mono {K:Qb}{H H':Hp}{a:Addr}{kn:Kn}{vs:List V}(k:∀a C dx fs,H a=some (.ins C dx fs)->H' a=some (.ins C dx fs)) (k2:∀a o u,H a=some (.frz o u)->H' a=some (.frz o u)) (h:ObjR K H a kn vs):ObjR K H' a kn vs:=by
 unfold ObjR at h ⊢
 split
 ·rename_i z;rw [Ql z] at h;exact h.mono k2
 ·rename_i z;rw [Qm z] at h;exact h.mono k
theorem ObjR.ins {K:Qb}{H:Hp}{a:Addr}{kn:Kn}{vs:List V}(h:ObjR K H a kn vs) (n:kn.c<CL):InsR K H a kn vs:=by
 unfold ObjR at h;rwa [Qm (Nat.not_le.mpr n)] at h
theorem ObjR.of {K:Qb}{H:Hp}{a:Addr}{kn:Kn}{vs:List V}(n:kn.c<CL) (h:InsR K H a kn vs):ObjR K H a kn vs:=by
 unfold ObjR;rwa [Qm (Nat.not_le.mpr n)]
section
variable {K:Qb}{H H' H'':Hp}{F F' F'':Fz}
mutual
theorem RD.mono (k:Keep H F H' F'):∀{d:D}{v:V},RD K H F d v->RD K H' F' d v
 | .non,_,h=>h
 | .bl _,_,h=>h
 | .int _,_,h=>h
 | .str _,_,h=>h
 | .tup ds,v,h=>by
  simp only [RD] at h ⊢
  obtain⟨a,vs,e,hs,hr⟩:=h
  exact⟨a,vs,e,hs.elim (λz=>.inl (k.tups _ _ z)) .inr,RDs.mono k hr⟩
 | .lst ds,v,h=>by
  simp only [RD] at h ⊢
  obtain⟨a,vs,e,hs,hr⟩:=h
  exact⟨a,vs,e,hs.elim (λz=>.inl (k.lsts _ _ z.1 z.2)) .inr,RDs.mono k hr⟩
 | .dct _ _,_,h=>by simp only [RD] at h
 | .obj kn ds,v,h=>by
  simp only [RD] at h ⊢
  obtain⟨a,vs,e,hs,hr⟩:=h
  exact⟨a,vs,e,hs.mono k.inss k.frzs,RDs.mono k hr⟩
theorem RDs.mono (k:Keep H F H' F'):∀{ds:List D}{vs:List V},RDs K H F ds vs->RDs K H' F' ds vs
 | [],_,h=>h
 | d::ds,vs,h=>by
  simp only [RDs] at h ⊢
  obtain⟨v,r,e,h1,h2⟩:=h
  exact⟨v,r,e,RD.mono k h1,RDs.mono k h2⟩
end
theorem RDs.length:∀{ds:List D}{vs:List V},RDs K H F ds vs->vs.length=ds.length
 | [],_,h=>by simp only [RDs] at h;subst h;rfl
 | d::ds,vs,h=>by
  simp only [RDs] at h
  obtain⟨v,r,rfl,_,h2⟩:=h
  simp [RDs.length h2]
theorem RDs.get:∀{ds:List D}{vs:List V}{i:Nat}{d:D},RDs K H F ds vs->ds[i]?=some d->∃v,vs[i]?=some v/\RD K H F d v
 | [],_,_,_,_,e=>by simp at e
 | x::ds,vs,i,d,h,e=>by
  simp only [RDs] at h
  obtain⟨v,r,rfl,h1,h2⟩:=h
  cases i with
  | zero=>simp at e;subst e;exact⟨v,rfl,h1⟩
  | succ i=>simp at e;obtain⟨w,e1,e2⟩:=RDs.get h2 e;exact⟨w,by simpa using e1,e2⟩
theorem RDs.append:∀{ds es:List D}{vs ws:List V},RDs K H F ds vs->RDs K H F es ws->RDs K H F (ds++es) (vs++ws)
 | [],_,_,_,h,h'=>by simp only [RDs] at h;subst h;exact h'
 | d::ds,es,vs,ws,h,h'=>by
  simp only [RDs] at h
  obtain⟨v,r,rfl,h1,h2⟩:=h
  exact⟨v,r++ws,rfl,h1,RDs.append h2 h'⟩
theorem RDs.take:∀{ds:List D}{vs:List V}(n:Nat),RDs K H F ds vs->RDs K H F (ds.take n) (vs.take n)
 | _,_,0,_=>by simp [RDs]
 | [],_,n+1,h=>by simp only [RDs] at h;subst h;simp [RDs]
 | d::ds,vs,n+1,h=>by
  simp only [RDs] at h
  obtain⟨v,r,rfl,h1,h2⟩:=h
  exact⟨v,r.take n,rfl,h1,RDs.take n h2⟩
theorem RDs.drop:∀{ds:List D}{vs:List V}(n:Nat),RDs K H F ds vs->RDs K H F (ds.drop n) (vs.drop n)
 | _,_,0,h=>by simpa using h
 | [],_,n+1,h=>by simp only [RDs] at h;subst h;simp [RDs]
 | d::ds,vs,n+1,h=>by
  simp only [RDs] at h
  obtain⟨v,r,rfl,h1,h2⟩:=h
  simpa using RDs.drop n h2
theorem RDs.rep (h:RDs K H F ds vs):∀n:Nat,RDs K H F (List.replicate n ds).flatten (List.replicate n vs).flatten
 | 0=>by simp [RDs]
 | n+1=>by simpa [kr] using RDs.append h (RDs.rep h n)
theorem RDs.ints:∀{ds:List D}{vs:List V}{is:List Int},RDs K H F ds vs->dY ds=some is->vs=is.map V.int
 | [],_,_,h,e=>by simp only [RDs] at h;subst h;simp at e;subst e;rfl
 | d::ds,vs,is,h,e=>by
  simp only [RDs] at h
  obtain⟨v,r,rfl,h1,h2⟩:=h
  cases d with
  | int i =>
   cases q:dY ds with
   | none=>simp [q] at e
   | some js =>
    simp [q] at e
    subst e
    have h1':v=.int i:=h1
    rw [h1',RDs.ints h2 q];rfl
  | _=>simp at e
theorem RDs.of_ints (is:List Int):RDs K H F (is.map .int) (is.map V.int):=by
 induction is with
 | nil=>simp [RDs]
 | cons i r ih=>exact⟨_,_,rfl,rfl,ih⟩
end
structure Gr (H:Hp) (F:Fz) (H':Hp) (F':Fz):Prop where
 same:Same H H'
 sub:∀a,F a->F' a
 new:∀a,F' a->F a∨H a=none
 dom:∀a,H' a=none->¬F' a
section
variable {K:Qb}{H H1 H2:Hp}{F F1 F2:Fz}
theorem sW (s:Same H H1) (h:Rd H a u):Rd H1 a u:=h.elim (λz=>.inl (s _ _ z)) λ⟨o,z⟩=>.inr ⟨o,s _ _ z⟩
theorem Gr.keep (g:Gr H F H1 F1):Keep H F H1 F1:=⟨λ_ _ h=>sW g.same h,λ_ _ f h=>⟨g.sub _ f,sW g.same h⟩,λ_ _ _ _ h=>g.same _ _ h,λ_ _ _ h=>g.same _ _ h⟩
theorem Gr.refl (d:∀a,H a=none->¬F a):Gr H F H F:=⟨Same.refl H,λ_ h=>h,λ_ h=>.inl h,d⟩
theorem Gr.trans (g:Gr H F H1 F1) (g':Gr H1 F1 H2 F2):Gr H F H2 F2:=
 ⟨g.same.trans g'.same,λa h=>g'.sub a (g.sub a h),λa h=>(g'.new a h).elim (λz=>g.new a z) λz=>.inr (g.same.free z),g'.dom⟩
theorem Gr.laid (d:∀a,H a=none->¬F a) (hp:H p=none):Gr H F (av H p o) F:=
 ⟨λb u q=>by rw [ax (cf q hp)];exact q,λ_ h=>h,λ_ h=>.inl h,λa e=>by
  by_cases z:a=p
  ·subst z;exact d a hp
  ·rw [ax z] at e;exact d a e⟩
theorem Gr.fz (g:Gr H F H1 F1) (hp:H p=none) (h1:H1 p=some o):Gr H F H1 (λa=>a=p∨F1 a):=
 ⟨g.same,λa h=>.inr (g.sub a h),λa h=>h.elim (λz=>.inr (z▸hp)) (λz=>g.new a z),λa e h=>h.elim (λz=>by subst z;rw [h1] at e;cases e) (g.dom a e)⟩
def RR (K:Qb) (H H':Hp) (F':Fz):R->V->Prop
 | (false,d),v=>RD K H' F' d v
 | (true,d),v=>∃a ds vs,d=.lst ds/\v=.ref a/\H a=none/\¬F' a/\H' a=some (.lst vs)/\RDs K H' F' ds vs
def RP (K:Qb) (H:Hp) (F:Fz) (d:D) (v:V):Prop:=
 RD K H F d v∨∃a ds vs,d=.lst ds/\v=.ref a/\H a=some (.lst vs)/\RDs K H F ds vs
theorem RR.back (h:RR K H H1 F1 r v) (s:Same H0 H):RR K H0 H1 F1 r v:=by
 obtain⟨b,d⟩:=r
 cases b with
 | false=>exact h
 | true =>
  obtain⟨a,ds,vs,e1,e2,e3,e⟩:=h
  exact⟨a,ds,vs,e1,e2,s.free e3,e⟩
theorem RR.look (h:RR K H H1 F1 r v):RP K H1 F1 r.2 v:=by
 obtain⟨b,d⟩:=r
 cases b with
 | false=>exact .inl h
 | true =>
  obtain⟨a,ds,vs,e1,e2,e3,e4,e5,e6⟩:=h
  exact .inr ⟨a,ds,vs,e1,e2,e5,e6⟩
theorem RR.fz (h:RR K H H1 F1 r v) (g:Gr H F H1 F1):∃F2,Gr H F H1 F2/\RD K H1 F2 r.2 v:=by
 obtain⟨b,d⟩:=r
 cases b with
 | false=>exact⟨F1,g,h⟩
 | true =>
  obtain⟨a,ds,vs,rfl,rfl,e3,e4,e5,e6⟩:=h
  have g2:Keep H1 F1 H1 (λb=>b=a∨F1 b):=⟨λ_ _ h=>h,λ_ _ f h=>⟨.inr f,h⟩,λ_ _ _ _ h=>h,λ_ _ _ h=>h⟩
  exact⟨λb=>b=a∨F1 b,g.fz e3 e5,⟨a,vs,rfl,.inl ⟨.inl rfl,.inl e5⟩,RDs.mono g2 e6⟩⟩
theorem RP.grow (h:RP K H F d v) (g:Gr H F H1 F1):RP K H1 F1 d v:=
 h.elim (λz=>.inl (RD.mono g.keep z)) λ⟨a,ds,vs,e1,e2,e3,e4⟩=>.inr ⟨a,ds,vs,e1,e2,g.same _ _ e3,RDs.mono g.keep e4⟩
theorem RP.int (h:RP K H F (.int i) v):v=.int i:=h.elim (λz=>z) λ⟨_,_,_,e,_⟩=>by cases e
theorem RP.bl (h:RP K H F (.bl i) v):v=.bl i:=h.elim (λz=>z) λ⟨_,_,_,e,_⟩=>by cases e
theorem RP.non (h:RP K H F .non v):v=.non:=h.elim (λz=>z) λ⟨_,_,_,e,_⟩=>by cases e
theorem RP.str (h:RP K H F (.str x) v):v=.str x:=h.elim (λz=>z) λ⟨_,_,_,e,_⟩=>by cases e
theorem RP.tup (h:RP K H F (.tup ds) v):∃a vs,v=.ref a/\SqT K H a vs/\RDs K H F ds vs:=h.elim (λz=>z) λ⟨_,_,_,e,_⟩=>by cases e
theorem RP.noDct:¬RP K H F (.dct m ks) v:=λh=>h.elim (λz=>by simp only [RD] at z) λ⟨_,_,_,e,_⟩=>by cases e
theorem RP.obj (h:RP K H F (.obj kn ds) v):∃a vs,v=.ref a/\ObjR K H a kn vs/\RDs K H F ds vs:=h.elim (λz=>by simpa only [RD] using z) λ⟨_,_,_,e,_⟩=>by cases e
theorem RP.lst (h:RP K H F (.lst ds) v):∃a vs,v=.ref a/\SqL K H a vs/\RDs K H F ds vs:=by
 rcases h with ⟨a,vs,e,h1,h2⟩|⟨a,ds',vs,e1,e2,e3,e4⟩
 ·exact⟨a,vs,e,h1.sq,h2⟩
 ·cases e1;exact⟨a,vs,e2,SqL.of e3,e4⟩
end
structure Gp where
 h:Hp
 pin:Option Addr
 tb:TB h
instance:Coe Gp Hp:=⟨Gp.h⟩
instance:CoeFun Gp λ_=>Addr->Option HO:=⟨Gp.h⟩
structure SR (K:Qb) (G:Gp) (H:Hp) (F:Fz) (Z:En) (τ:L2.St):Prop where
 len:Z.length=τ.length
 ent:Same G.h H
 dom:∀a,H a=none->¬F a
 val:∀i d,ao Z i=some (false,d)->∃v,τ[i]?=some (some v)/\RD K H F d v
 own:∀i d,ao Z i=some (true,d)->jA d=false->∃a ds vs,d=.lst ds/\τ[i]?=some (some (.ref a))/\G a=none/\¬F a/\H a=some (.lst vs)/\RDs K H F ds vs
 sep:∀i j d e,ao Z i=some (true,d)->ao Z j=some (true,e)->τ[i]?=τ[j]?->i=j
 dct:∀i m ks,ao Z i=some (true,.dct m ks)->∃a,τ[i]?=some (some (.ref a))/\¬F a/\H a=some (.dK (dk ks))/\(m=true->G a=none)
 pin:∀p d,G.pin=some p->ao Z 0=some (true,d)->τ[0]?=some (some (.ref p))
theorem SR.grow {K:Qb}{G:Gp}{H H1:Hp}{F F1:Fz}{Z:En}{τ:L2.St}(s:SR K G H F Z τ) (g:Gr H F H1 F1):SR K G H1 F1 Z τ:=
 ⟨s.len,s.ent.trans g.same,g.dom,λi d e=>let ⟨v,h1,h2⟩:=s.val i d e;⟨v,h1,RD.mono g.keep h2⟩,
  λi d e hd=>let ⟨a,ds,vs,h1,h2,h3,h4,h5,h6⟩:=s.own i d e hd
   ⟨a,ds,vs,h1,h2,h3,(λz=>(g.new a z).elim h4 λz=>Qn (h5.symm.trans z) (by simp)),g.same _ _ h5,RDs.mono g.keep h6⟩,s.sep,
  λi m ks e=>let ⟨a,h1,h2,h3,h4⟩:=s.dct i m ks e
   ⟨a,h1,(λz=>(g.new a z).elim h2 λz=>Qn (h3.symm.trans z) (by simp)),g.same _ _ h3,h4⟩,s.pin⟩
theorem SR.tbH {K:Qb}{G:Gp}{H:Hp}{F:Fz}{Z:En}{τ:L2.St}(s:SR K G H F Z τ):TB H:=G.tb.same s.ent
theorem SR.addr {K:Qb}{G:Gp}{H:Hp}{F:Fz}{Z:En}{τ:L2.St}{i:Nat}{d:D}(s:SR K G H F Z τ) (h:ao Z i=some (true,d)):∃a u,τ[i]?=some (some (.ref a))/\¬F a/\H a=some u:=by
 cases hd:jA d with
 | false=>obtain⟨a,ds,vs,h1,h2,h3,h4,h5,h6⟩:=s.own i d h hd;exact⟨a,_,h2,h4,h5⟩
 | true =>
  cases d with
  | dct m ks=>obtain⟨a,h1,h2,h3,h4⟩:=s.dct i m ks h;exact⟨a,_,h1,h2,h3⟩
  | _=>cases hd
end Dw
namespace Dw
open PySem PySem.Spec PyProof.Rows L2
section
variable {K:Qb}{H H' H'':Hp}{F F':Fz}{cs:List (Addr×Obj)}
theorem qP2 (CI:cR H cs) {a:Addr}{u:HO}(h:Rd H a u) (n:u≠.own a) (n2:∀o,u≠.frz o (.own a)):cs.lookup a=none:=by
 cases z:cs.lookup a with
 | none=>rfl
 | some o =>
  have e:=CI a o z
  rcases h with h|⟨o',h⟩<;>rw [h] at e
  ·cases e;exact Qn rfl (n2 o)
  ·cases e;exact Qn rfl n
theorem xr (CI:cR H cs) {a:Addr}{u:HO}(h:Rd H a u) (n:u≠.own a) (n2:∀o,u≠.frz o (.own a)):Rd (bI H cs) a u:=by
 have z:cs.lookup a=none:=by
  cases z:cs.lookup a with
  | none=>rfl
  | some o =>
   have e:=CI a o z
   rcases h with h|⟨o',h⟩<;>rw [h] at e
   ·cases e;exact Qn rfl (n2 o)
   ·cases e;exact Qn rfl n
 unfold Rd
 rw [cH z]
 exact h
noncomputable def Fc (F:Fz) (cs:List (Addr×Obj)):Fz:=λa=>F a/\cs.lookup a=none
mutual
theorem RD.off (CI:cR H cs):∀{d:D}{v:V},bO d=true->RD K H F d v->RD K (bI H cs) (Fc F cs) d v
 | .non,_,_,h=>h
 | .bl _,_,_,h=>h
 | .int _,_,_,h=>h
 | .str _,_,_,h=>h
 | .tup ds,v,n,h=>by
  simp only [RD] at h ⊢
  obtain⟨a,vs,e,hs,hr⟩:=h
  exact⟨a,vs,e,hs.elim (λz=>.inl (xr CI z (λr=>by cases r) λo r=>by cases r)) .inr,RDs.off CI (by simpa only [bO] using n) hr⟩
 | .lst ds,v,n,h=>by
  simp only [RD] at h ⊢
  obtain⟨a,vs,e,hs,hr⟩:=h
  exact⟨a,vs,e,hs.elim (λz=>.inl ⟨⟨z.1,qP2 CI z.2 (λr=>by cases r) λo r=>by cases r⟩,xr CI z.2 (λr=>by cases r) λo r=>by cases r⟩) .inr,RDs.off CI (by simpa only [bO] using n) hr⟩
 | .dct _ _,_,_,h=>by simp only [RD] at h
 | .obj kn ds,v,n,h=>by
  simp only [RD] at h ⊢
  simp only [bO,aI,decide_eq_true_eq] at n
  obtain⟨a,vs,e,hs,hr⟩:=h
  obtain⟨dx,fs,h1,h2⟩:=hs.ins n.1
  refine⟨a,vs,e,.of n.1 ⟨dx,fs,?_,h2⟩,RDs.off CI n.2 hr⟩
  have z:cs.lookup a=none:=by
   cases z:cs.lookup a with
   | none=>rfl
   | some o=>have e:=CI a o z;rw [h1] at e;cases e
  rw [cH z]
  exact h1
theorem RDs.off (CI:cR H cs):∀{ds:List D}{vs:List V},dv ds=true->RDs K H F ds vs->RDs K (bI H cs) (Fc F cs) ds vs
 | [],_,_,h=>h
 | d::ds,vs,n,h=>by
  simp only [RDs] at h ⊢
  simp only [dv,aI] at n
  obtain⟨v,r,e,h1,h2⟩:=h
  exact⟨v,r,e,RD.off CI n.1 h1,RDs.off CI n.2 h2⟩
end
theorem xX:Keep H (Fc F cs) H F:=⟨λ_ _ h=>h,λ_ _ f h=>⟨f.1,h⟩,λ_ _ _ _ h=>h,λ_ _ _ h=>h⟩
theorem qNE (n:∀a o,cs.lookup a=some o->H a=none):Same H (bR H cs):=λb x e=>by
 cases z:cs.lookup b with
 | none=>rw [de z];exact e
 | some o=>rw [n b o z] at e;cases e
theorem wD (d:∀a,H a=none->¬F a) (n:∀a o,cs.lookup a=some o->H a=none):Gr H F (bR H cs) F:=⟨qNE n,λ_ h=>h,λ_ h=>.inl h,λa e=>by
 cases z:cs.lookup a with
 | none=>rw [de z] at e;exact d a e
 | some o=>rw [iL z] at e;cases e⟩
theorem qQC (d:∀a,H a=none->¬F a) (n:∀a o,cs.lookup a=some o->H a=none) (CI:cR H' cs) (g:Gr (bR H cs) F H' F'):Gr H F (bI H' cs) F':=by
 refine⟨λb x e=>?_,g.sub,λa f=>?_,λa e f=>?_⟩
 ·have z:cs.lookup b=none:=by
   cases z:cs.lookup b with
   | none=>rfl
   | some o=>rw [n b o z] at e;cases e
  rw [cH z]
  exact g.same b x (by rw [de z];exact e)
 ·rcases g.new a f with q|q
  ·exact .inl q
  ·cases z:cs.lookup a with
   | none=>rw [de z] at q;exact .inr q
   | some o=>exact .inr (n a o z)
 ·cases z:cs.lookup a with
  | none=>rw [cH z] at e;exact g.dom a e f
  | some o =>
   rcases g.new a f with q|q
   ·exact d a (n a o z) q
   ·rw [iL z] at q;cases q
theorem qPp (n:∀a o,cs.lookup a=some o->H a=none) (CI:cR H' cs) {r:R}{v:V}(nc:bO r.2=true) (h:RR K (bR H cs) H' F' r v):RR K H (bI H' cs) F' r v:=by
 obtain⟨b,d⟩:=r
 cases b with
 | false=>exact RD.mono xX (RD.off CI nc h)
 | true =>
  obtain⟨a,ds,vs,rfl,rfl,e3,e4,e5,e6⟩:=h
  have z:cs.lookup a=none:=by
   cases z:cs.lookup a with
   | none=>rfl
   | some o=>rw [iL z] at e3;cases e3
  exact⟨a,ds,vs,rfl,rfl,by rw [de z] at e3;exact e3,e4,by rw [cH z];exact e5,RDs.mono xX (RDs.off CI (by simpa only [bO] using nc) e6)⟩
theorem qSp (d:∀a,H a=none->¬F a) (CI:cR H cs) (n:∀a o,cs.lookup a=some o->H' a=none) (g:Gr (bI H cs) (Fc F cs) H' F'):Gr H F (bR H' cs) (λa=>F' a∨F a):=by
 have sm:Same H (bR H' cs):=λb x e=>by
  cases z:cs.lookup b with
  | none=>rw [de z];exact g.same b x (by rw [cH z];exact e)
  | some o=>rw [CI b o z] at e;cases e;exact iL z
 refine⟨sm,λ_ f=>.inr f,λa f=>?_,λa e f=>?_⟩
 ·rcases f with f|f
  ·rcases g.new a f with q|q
   ·exact .inl q.1
   ·cases z:cs.lookup a with
    | none=>rw [cH z] at q;exact .inr q
    | some o=>exact Qn f (g.dom a (n a o z))
  ·exact .inl f
 ·rcases f with f|f
  ·cases z:cs.lookup a with
   | none=>rw [de z] at e;exact g.dom a e f
   | some o=>rw [iL z] at e;cases e
  ·cases q:H a with
   | none=>exact d a q f
   | some x=>rw [sm a x q] at e;cases e
theorem qNF (d:∀a,H a=none->¬F a):∀a,bI H cs a=none->¬Fc F cs a:=λa e f=>by
 rw [cH f.2] at e
 exact d a e f.1
theorem qRQ (d:∀a,H a=none->¬F a) (CI:cR H cs) (n:∀a o,cs.lookup a=some o->H' a=none) (d':∀a,H' a=none->¬F' a) {r:R}{v:V}(h:RR K (bI H cs) H' F' r v):RR K H (bR H' cs) (λa=>F' a∨F a) r v:=by
 have s:=wD (F:=F') d' n
 have k2:Keep (bR H' cs) F' (bR H' cs) (λa=>F' a∨F a):=⟨λ_ _ h=>h,λ_ _ f h=>⟨.inl f,h⟩,λ_ _ _ _ h=>h,λ_ _ _ h=>h⟩
 obtain⟨b,dd⟩:=r
 cases b with
 | false=>exact RD.mono k2 (RD.mono s.keep h)
 | true =>
  obtain⟨a,ds,vs,rfl,rfl,e3,e4,e5,e6⟩:=h
  have z:cs.lookup a=none:=by
   cases z:cs.lookup a with
   | none=>rfl
   | some o=>rw [n a o z] at e5;cases e5
  rw [cH z] at e3
  exact⟨a,ds,vs,rfl,rfl,e3,λf=>f.elim e4 (d a e3),s.same _ _ e5,RDs.mono k2 (RDs.mono s.keep e6)⟩
end
end Dw
namespace Dw
open PySem PySem.Spec PyProof.Rows L2
theorem jP (h:a.natAbs<2^n):Builtin.Int.intBits a<=n:=by
 unfold Builtin.Int.intBits
 split
 ·exact fx _
 ·rename_i hz
  have h0:a.natAbs≠0:=λz=>by
   have:a=0:=ybV.mp z
   subst this;simp at hz
  have:=(nF h0).mpr h
  omega
theorem qKs (ha:Builtin.Int.intBits a<=1048640) (hb:Builtin.Int.intBits b<=1048640):IntMulOk a b:=by
 have h:Builtin.Int.intTooBig (Builtin.Int.intBits a+Builtin.Int.intBits b)=false:=by
  unfold Builtin.Int.intTooBig bitsLine
  exact Qj (by omega)
 unfold IntMulOk
 rw [h,jl]
 exact fZ
theorem qQa (h:h9 a b=true):IntMulOk a b:=by
 have h':=Qp h
 rcases h' with ⟨h1,h2⟩|h1|h1|⟨h1,h2⟩
 ·exact IntMulOk.of_bits (aM (jP h1) (by decide)) (aM (jP h2) (by decide))
 ·exact IntMulOk.of_left (jP h1)
 ·exact IntMulOk.of_right (jP h1)
 ·exact qKs (jP h1) (jP h2)
section
variable {X:Cx}
theorem op_mulD:OpR X (binaryOp .Mult) (rI (λi j=>h9 i j=true) λi j=>.int (i * j)):=lI λ_ _ _ _ _ _ _ hc q=>mul_int q (qQa hc)
theorem qKk:OpR X (binaryOp .FloorDiv) (rI (λ_ j=>aT j=true) λi j=>.int (i.fdiv j)):=lI λi j _ _ _ _ _ hc q=>by
 have h:=Qp hc
 refine floordiv_int h.1 q (.inl (PyProof.noPylong_of_log2 ?_))
 rcases h.2 with h2|h2
 ·have:=(nF (λz=>h.1 (ybV.mp z))).mpr h2
  omega
 ·have:=(nF (λz=>h.1 (ybV.mp z))).mpr h2
  omega
theorem qNB:OpR X (binaryOp .Mod) (rI (λ_ j=>aT j=true) λi j=>.int (i.fmod j)):=lI λ_ _ _ _ _ _ _ hc q=>mod_int' (Qp hc).1 q
theorem qNA:OpR X (binaryOp .Pow) (rI (λi j=>gR i j=true) λi j=>.int (i^j.toNat)):=lI λi j _ _ _ _ _ hc q=>by
 obtain⟨h1,h2,h3⟩:=Qp hc
 refine pow_int h2 ?_ q
 have:=jP h1
 calc (Builtin.Int.intBits i:Int) * j<=240 * 200:=nK (by exact_mod_cast this) h3 h2 (by decide)
  _<=2^27:=by decide
theorem qKA (l:Addr) (items:Array Value) (n:Nat) (sl:Array (Option Value)) (b:Addr) (items2:Array Value) (n2:Nat) (sl2:Array (Option Value)) (hc0:items.size+items2.size<=sizeLine) :
  Meets (Builtin.«list.__add__» ⟨[.ref l,.ref b],[]⟩) (λ_ R s=>s.heap.get? l=some ⟨.type "list",none,.seq items n,sl⟩/\s.heap.get? b=some ⟨.type "list",none,.seq items2 n2,sl2⟩ /\
   R (.ok (.ret (Value.ref s.heap.objs.size))) { s with heap:=s.heap.push { cls:=.type "list",data:=.seq (items++items2) } }):=
 .of_wp λprog w A R s h=>by
  obtain⟨hp,g,d,tk,os⟩:=s
  obtain⟨hl,hb,h⟩:=h
  have f3:=F.sub_list_list
  wp_walk using AutoSeq1.wpAny_loadPart' hl,AutoSeq1.wpAny_loadPart' hb
  exact⟨_,rfl,h⟩
theorem qKz (l:Addr) (items:Array Value) (n:Nat) (sl:Array (Option Value)) (x:Int) (u:Tok) (hc0:¬(!Builtin.List.listFitsIndex x)=true) (hc1:¬items.size * x.toNat > (2^63 - 1) / 8) (hc2:¬Builtin.List.listTooLong (items.size * x.toNat)=true) :
  Meets (Builtin.«list.__mul__» ⟨[.ref l,.int x u],[]⟩) (λ_ R s=>s.heap.get? l=some ⟨.type "list",none,.seq items n,sl⟩ /\
   R (.ok (.ret (Value.ref s.heap.objs.size))) { s with heap:=s.heap.push { cls:=Value.type "list",data:=Data.seq (List.foldl (λx1 x2=>x1++x2) #[] (List.replicate (if items.isEmpty=true then 0 else x.toNat) items)) } }):=
 .of_wp λprog w A R s h=>by
  obtain⟨hp,g,d,tk,os⟩:=s
  obtain⟨hl,h⟩:=h
  have hsz:=AutoListH.joined_fits hc2
  wp_walk
  refine wpAny_ite_false (Qj (Nat.not_lt.mpr hsz)) ?_
  wp_walk
  exact⟨_,rfl,h⟩
theorem qRR (a:Int) (t:Tok) (l:Addr) (items:Array Value) (n:Nat) (sl:Array (Option Value)) :
  Meets (Builtin.«int.__rmul__» ⟨[.int a t,.ref l],[]⟩) (λ_ R s=>s.heap.get? l=some ⟨.type "list",none,.seq items n,sl⟩/\R (.ok (.ret Value.notImplemented)) s):=
 .of_wp λprog w A R s h=>by
  obtain⟨hp,g,d,tk,os⟩:=s
  obtain⟨hl,h⟩:=h
  wp_walk
  exact⟨_,rfl,h⟩
theorem Inv.lobj (I:Inv X pins Z H s) (h:SqL X.K H a xs) :
  ∃(its:List Value) (n:Nat) (sl:Array (Option Value)),Vals xs its/\xs.length=its.length/\s.heap.get? a=some ⟨.type "list",none,.seq its.toArray n,sl⟩/\xs.length<=sizeLine:=by
 obtain⟨its,r,⟨⟨c,dd,da,sl⟩,n,e,e1,e2,e3⟩,z⟩:=I.list h
 simp only at e1 e2 e3
 subst e1 e2 e3
 exact⟨its,n,sl,r,r.length,e,z⟩
def qRV (K:Qb):R2:=λx y H Q=>∃l b xs zs,x=.ref l/\y=.ref b/\SqL K H l xs/\SqL K H b zs/\xs.length+zs.length<=sizeLine/\∀p,H p=none->Q (.ref p) (av H p (.lst (xs++zs)))
theorem op_catD:OpR X (binaryOp .Add) (qRV X.K):=by
 intro pins s Z H x y v u Q I rx ry h
 obtain⟨l,b,xs,zs,rfl,rfl,hH,hB,hz,q⟩:=h
 cases rx
 cases ry
 obtain⟨its,n,sl,r,hl,e,z⟩:=Inv.lobj I hH
 obtain⟨its2,n2,sl2,r2,hl2,e2,z2⟩:=Inv.lobj I hB
 refine concat_meets ⟨_,e,rfl⟩ ⟨_,e2,rfl⟩ noFill_list_add seq_list_add F.slot_list_add F.entry_list_add (F.args_list_add_2 _ _)
  (qKA l its.toArray n sl b its2.toArray n2 sl2 (by rw [aH,aH];omega)) ⟨e,e2,?_⟩
 have ea:its.toArray++its2.toArray=(its++its2).toArray:=by simp
 rw [ea]
 exact⟨.ref _,_,I.lnew (t':=s.toks) (r.append r2) (by rw [bf];omega),rfl,q _ I.fresh⟩
def qRT (K:Qb):R2:=λx y H Q=>∃l k xs,x=.ref l/\y=.int k/\SqL K H l xs/\-(2^63)<=k/\k<2^63/\xs.length * k.toNat<=sizeLine /\
 ∀p,H p=none->Q (.ref p) (av H p (.lst (List.replicate k.toNat xs).flatten))
theorem qNz:OpR X (binaryOp .Mult) (qRT X.K):=by
 intro pins s Z H x y v u Q I rx ry h
 obtain⟨l,k,xs,rfl,rfl,hH,h1,h2,hz,q⟩:=h
 cases rx
 obtain⟨t,rfl⟩:=ry
 obtain⟨its,n,sl,r,hl,e,z⟩:=Inv.lobj I hH
 have hlen:its.toArray.size * k.toNat<=sizeLine:=by rw [aH,<-hl];exact hz
 have hcap:¬its.toArray.size * k.toNat > (2^63 - 1) / 8:=by
  have:(sizeLine:Nat)<=(2^63 - 1) / 8:=by decide
  omega
 have hfit:¬(!Builtin.List.listFitsIndex k)=true:=by rw [fitsIndex_both h1 h2];exact fZ
 have hlong:¬Builtin.List.listTooLong (its.toArray.size * k.toNat)=true:=by rw [tX hlen];exact fZ
 have hnew:List.foldl (λx1 x2=>x1++x2) #[] (List.replicate (if its.toArray.isEmpty=true then 0 else k.toNat) its.toArray)=(List.replicate k.toNat its).flatten.toArray:=by
  have f0:∀m:Nat,List.foldl (λx1 x2=>x1++x2) #[] (List.replicate m its.toArray)=(List.replicate m its).flatten.toArray:=λm=>by simpa using zZ its m []
  rw [f0]
  cases its with
  | nil=>simp
  | cons a r'=>rw [Qm (by simp)]
 refine wpAny_binaryOp_repeat_ref (T:="list") (U:="int") (by decide) ⟨_,e,rfl⟩ (λs'=>typeIs_int s' k t) noFill_list_mul F.fills_int_mul F.slot_int_rmul repeat_list F.slot_int_index.lookup
  (call_meets F.slot_int_rmul (typeIs_int s k t) F.entry_int_rmul (F.args_int_rmul_2 _ _) (qRR k t l its.toArray n sl)
   ⟨e,rfl,⟨_,e,rfl⟩,call_meets F.slot_list_mul ⟨_,e,rfl⟩ F.entry_list_mul (F.args_list_mul_2 _ _) (qKz l its.toArray n sl k t hfit hcap hlong) ⟨e,?_⟩⟩)
 rw [hnew]
 exact⟨.ref _,_,I.lnew (t':=s.toks) (r.rep k.toNat) (by rw [qNP,Nat.mul_comm];exact hz),rfl,q _ I.fresh⟩
theorem qI6 (hc:X.calm=true):CallR X (.builtin "max") (λxs H Q=>∃i j k,xs=[.int i,.int j,.int k]/\Q (.int (if k > (if j > i then j else i) then k else (if j > i then j else i))) H):=by
 intro pins s Z H xs us Q I r h
 obtain⟨i,j,k,rfl,q⟩:=h
 obtain _|⟨⟨t,rfl⟩,_|⟨⟨t',rfl⟩,_|⟨⟨t2,rfl⟩,_|_⟩⟩⟩:=r
 refine max_three_ints (I.ok.hd hc) λh' tk hk=>?_
 have I1:Inv X pins Z H { s with heap:=h',toks:=tk }:=I.kept hk
 have fin:∀(z:Int) (tok:Tok),z=(if k > (if j > i then j else i) then k else (if j > i then j else i))->EP X pins Z Q (.int z tok) { s with heap:=h',toks:=tk }:=λz tok e=>⟨.int z,H,I1,⟨_,rfl⟩,by rw [e];exact q⟩
 by_cases hba:j > i<;>by_cases hc1:k > j<;>by_cases hc2:k > i<;>simp only [hba,hc1,hc2,if_true,if_false] at fin ⊢<;>first|exact fin _ _ rfl|exact fin _ _ (by omega)
end
end Dw
namespace Dw
open PySem PySem.Spec PyProof.Rows L2
section
variable {X:Cx}
theorem qc:∀{is:List Int}{its:List Value},Vals (is.map V.int) its->∃xs:List (Int×Tok),its=xs.map (λp=>Value.int p.1 p.2)/\xs.map (·.1)=is
 | [],_,.nil=>⟨[],rfl,rfl⟩
 | i::is,_,.cons ⟨t,e⟩ r=>by
  obtain⟨xs,h1,h2⟩:=qc r
  exact⟨(i,t)::xs,by rw [e,h1];rfl,by rw [cT,h2]⟩
theorem qFi (xs:Array (Int×Tok)):preSum (numAt xs) xs.size=(xs.toList.map (·.1)).sum:=by
 rw [preSum_eq,dF (by simp)]
theorem qI3 (hc:X.calm=true):CallR X (.builtin "sum") (λxs H Q=>∃(p:Addr) (is:List Int),xs=[.ref p]/\SqL X.K H p (is.map V.int)/\Q (.int is.sum) H):=by
 intro pins s Z H xs us Q I r h
 obtain⟨p,is,rfl,hq,q⟩:=h
 obtain⟨u,rfl,ru⟩:=gd r
 cases ru
 obtain⟨its,rv,pl,z⟩:=I.list hq
 obtain⟨ps,rfl,rfl⟩:=qc rv
 have e:(ps.map λp=>Value.int p.1 p.2).toArray=intItems ps.toArray:=by simp [intItems]
 have hl:s.heap.IsList p (intItems ps.toArray):=by rw [<-e];exact pl.isList
 refine sum_intListG (I.ok.hd hc) hl λh' tk t' hk=>?_
 rw [qFi]
 exact⟨.int _,H,I.kept hk,⟨_,rfl⟩,q⟩
theorem qKt (h:j6 is=some m):m∈is/\∀a∈is,m<=a:=by
 cases is with
 | nil=>cases h
 | cons a r =>
  cases h
  have:∀(l:List Int) (b:Int),(l.foldl (λm x=>if x<m then x else m) b=b∨l.foldl (λm x=>if x<m then x else m) b∈l)/\l.foldl (λm x=>if x<m then x else m) b<=b/\∀y∈l,l.foldl (λm x=>if x<m then x else m) b<=y:=by
   intro l
   induction l with
   | nil=>intro b;exact⟨.inl rfl,lS _,λ_ h=>nomatch h⟩
   | cons x l ih =>
    intro b
    rw [lY]
    obtain⟨h1,h2,h3⟩:=ih (if x<b then x else b)
    generalize l.foldl (λm x=>if x<m then x else m) (if x<b then x else b)=z at h1 h2 h3
    refine⟨?_,?_,λy hy=>?_⟩
    ·rcases h1 with h1|h1
     ·split at h1
      ·exact .inr (h1▸bh)
      ·exact .inl h1
     ·exact .inr (bC _ h1)
    ·split at h2<;>omega
    ·rcases yag.mp hy with rfl|hy
     ·split at h2<;>omega
     ·exact h3 y hy
  obtain⟨h1,h2,h3⟩:=this r a
  exact⟨yag.mpr h1,λy hy=>(yag.mp hy).elim (λe=>e▸h2) (h3 y)⟩
theorem qKr (h:j3 is=some m):m∈is/\∀a∈is,a<=m:=by
 cases is with
 | nil=>cases h
 | cons a r =>
  cases h
  have:∀(l:List Int) (b:Int),(l.foldl (λm x=>if m<x then x else m) b=b∨l.foldl (λm x=>if m<x then x else m) b∈l)/\b<=l.foldl (λm x=>if m<x then x else m) b/\∀y∈l,y<=l.foldl (λm x=>if m<x then x else m) b:=by
   intro l
   induction l with
   | nil=>intro b;exact⟨.inl rfl,lS _,λ_ h=>nomatch h⟩
   | cons x l ih =>
    intro b
    rw [lY]
    obtain⟨h1,h2,h3⟩:=ih (if b<x then x else b)
    generalize l.foldl (λm x=>if m<x then x else m) (if b<x then x else b)=z at h1 h2 h3
    refine⟨?_,?_,λy hy=>?_⟩
    ·rcases h1 with h1|h1
     ·split at h1
      ·exact .inr (h1▸bh)
      ·exact .inl h1
     ·exact .inr (bC _ h1)
    ·split at h2<;>omega
    ·rcases yag.mp hy with rfl|hy
     ·split at h2<;>omega
     ·exact h3 y hy
  obtain⟨h1,h2,h3⟩:=this r a
  exact⟨yag.mpr h1,λy hy=>(yag.mp hy).elim (λe=>e▸h2) (h3 y)⟩
theorem qI5 (hc:X.calm=true):CallR X (.builtin "min") (λxs H Q=>∃(p:Addr) (is:List Int) (m:Int),xs=[.ref p]/\SqL X.K H p (is.map V.int)/\j6 is=some m/\Q (.int m) H):=by
 intro pins s Z H xs us Q I r h
 obtain⟨p,is,m,rfl,hq,hm,q⟩:=h
 obtain⟨u,rfl,ru⟩:=gd r
 cases ru
 obtain⟨its,rv,pl,z⟩:=I.list hq
 obtain⟨ps,rfl,rfl⟩:=qc rv
 have e:(ps.map λp=>Value.int p.1 p.2).toArray=intItems ps.toArray:=by simp [intItems]
 have hl:s.heap.IsList p (intItems ps.toArray):=by rw [<-e];exact pl.isList
 obtain⟨m1,m2⟩:=qKt hm
 have hsz:0<ps.toArray.size:=by
  cases ps with
  | nil=>cases hm
  | cons _ _=>simp
 refine min_intList (I.ok.hd hc) hl hsz λv h' tk hv hk=>?_
 obtain⟨t,rfl⟩:=intItems_at hv
 obtain⟨h1,h2⟩:=argBest_lt (numAt ps.toArray) (ps.toArray.size - 1)
 have key:numAt ps.toArray (argBest (λi j=>decide (numAt ps.toArray i<numAt ps.toArray j)) (ps.toArray.size - 1))=m:=by
  refine Int.le_antisymm ?_ (m2 _ ?_)
  ·obtain⟨j,hj,e⟩:=List.getElem_of_mem m1
   have:=h2 j (by simp at hj ⊢;omega)
   refine kB this (Int.le_of_eq ?_)
   rw [<-e]
   simp [numAt] at hj ⊢
   rw [cz hj];rfl
  ·generalize argBest (λi j=>decide (numAt ps.toArray i<numAt ps.toArray j)) (ps.toArray.size - 1)=k at h1 ⊢
   have hk:k<ps.length:=by simp at h1 hsz;omega
   refine yaN.mpr ⟨ps[k],iF hk,?_⟩
   simp [numAt]
   rw [cz hk];rfl
 rw [key]
 exact⟨.int _,H,I.kept hk,⟨_,rfl⟩,q⟩
theorem qI8 (hc:X.calm=true):CallR X (.builtin "max") (λxs H Q=>∃(p:Addr) (is:List Int) (m:Int),xs=[.ref p]/\SqL X.K H p (is.map V.int)/\j3 is=some m/\Q (.int m) H):=by
 intro pins s Z H xs us Q I r h
 obtain⟨p,is,m,rfl,hq,hm,q⟩:=h
 obtain⟨u,rfl,ru⟩:=gd r
 cases ru
 obtain⟨its,rv,pl,z⟩:=I.list hq
 obtain⟨ps,rfl,rfl⟩:=qc rv
 have e:(ps.map λp=>Value.int p.1 p.2).toArray=intItems ps.toArray:=by simp [intItems]
 have hl:s.heap.IsList p (intItems ps.toArray):=by rw [<-e];exact pl.isList
 obtain⟨m1,m2⟩:=qKr hm
 have hsz:0<ps.toArray.size:=by
  cases ps with
  | nil=>cases hm
  | cons _ _=>simp
 refine max_intList (I.ok.hd hc) hl hsz λv h' tk hv hk=>?_
 obtain⟨t,rfl⟩:=intItems_at hv
 obtain⟨h1,h2⟩:=argBest_gt (numAt ps.toArray) (ps.toArray.size - 1)
 have key:numAt ps.toArray (argBest (λi j=>decide (numAt ps.toArray i > numAt ps.toArray j)) (ps.toArray.size - 1))=m:=by
  refine Int.le_antisymm (m2 _ ?_) ?_
  ·generalize argBest (λi j=>decide (numAt ps.toArray i > numAt ps.toArray j)) (ps.toArray.size - 1)=k at h1 ⊢
   have hk:k<ps.length:=by simp at h1 hsz;omega
   refine yaN.mpr ⟨ps[k],iF hk,?_⟩
   simp [numAt]
   rw [cz hk];rfl
  ·obtain⟨j,hj,e⟩:=List.getElem_of_mem m1
   have:=h2 j (by simp at hj ⊢;omega)
   refine kB (Int.le_of_eq ?_) this
   rw [<-e]
   simp [numAt] at hj ⊢
   rw [cz hj];rfl
 rw [key]
 exact⟨.int _,H,I.kept hk,⟨_,rfl⟩,q⟩
theorem qHl (is:List Int):(gK is).Perm is/\(gK is).Pairwise (·<=·):=by
 refine⟨List.mergeSort_perm is _,?_⟩
 have h:=List.pairwise_mergeSort (le:=λa b:Int=>decide (a<=b)) (λa b c h1 h2=>by simp at *;omega) (λa b=>by simp;omega) is
 exact h.imp λh=>by simpa using h
theorem qEW:CallR X (.builtin "sorted") (λxs H Q=>∃(p:Addr) (is:List Int),xs=[.ref p]/\(SqL X.K H p (is.map V.int)∨SqT X.K H p (is.map V.int))/\is.length<64/\∀l,H l=none->Q (.ref l) (av H l (.lst ((gK is).map V.int)))):=by
 intro pins s Z H xs us Q I r h
 obtain⟨p,is,rfl,hq,hl,q⟩:=h
 obtain⟨u,rfl,ru⟩:=gd r
 cases ru
 have jg:(64:Nat)<=sizeLine:=by decide
 have ob:∃(its:List Value) (T:String) (o:Obj) (n:Nat),(T="list"∨T="tuple")/\Vals (is.map V.int) its/\s.heap.get? p=some o/\o.cls=.type T/\o.data=.seq its.toArray n:=by
  rcases hq with hq|hq
  ·obtain⟨its,n,sl,rv,_,e,_⟩:=Inv.lobj I hq
   exact⟨its,_,_,n,.inl rfl,rv,e,rfl,rfl⟩
  ·obtain⟨its,rv,⟨o,e1,e2,n,e3⟩,_⟩:=I.tuple hq
   exact⟨its,_,o,n,.inr rfl,rv,e1,e2,e3⟩
 obtain⟨its,T,o,n,hT,rv,e1,e2,e3⟩:=ob
 have hI:IntsAre its is:=qGM rv
 have hlen:its.length=is.length:=by simpa using rv.length.symm
 refine PySem.Calls.call_function_entry kind_sorted plain_sorted entry_sorted (args_sorted1 _) ?_
 unfold Builtin.«sorted»
 refine Qc (m:=checkCount "sorted" 1 1 _) (Qd ?_)
 refine Qc (wpAny_collect_seq p hT e1 e2 e3 (λh' kp=>?_) (by rw [aH];omega))
 refine Qc (wpAny_newList ?_ (by rw [List.toList_toArray];omega))
 have hoL:(h'.push (seqObj "list" its.toArray 0)).get? h'.objs.size=some (seqObj "list" its.toArray 0):=Qh _ rfl
 refine Qc (wpAny_holding (wpAny_call_entry slot_list_sort ⟨_,hoL,rfl⟩ entry_list_sort (list_sort_tree hoL hI (by omega) λout ns' a1 a2 a3=>⟨_,rfl,?_⟩) (args_list_sort _)))
 obtain⟨s1,s2⟩:=qHl is
 obtain rfl:ns'=gK is:=zy (a2.trans s1.symm) a3 s2
 have I1:Inv X pins Z H { s with heap:=h' }:=I.kept (t':=s.toks) kp
 obtain⟨ep,he⟩:=sortedHeap_at (out:=out) hoL
 have kept:∀b ob,h'.get? b=some ob->(sortedHeap (h'.push (seqObj "list" its.toArray 0)) h'.objs.size its out).get? b=some ob:=λb ob hb=>by
  have hlt:=Qi hb
  rw [sortedHeap_old (bK hlt) (by rw [Heap.size_push];exact Nat.lt_succ_of_lt hlt)]
  exact Qg _ hb
 refine Qd ⟨_,rfl,.ref h'.objs.size,_,I1.laid (t':=s.toks) (o:=.lst ((gK is).map V.int)) kept (ar _) ⟨?_,out.toList,ep,uC a1,?_⟩,rfl,q _ (I1.hok.fresh (ar _))⟩
 ·rw [aC,s1.length_eq]
  omega
 ·rw [he]
end
theorem z9 (A:Around):A.in1.units=A.units+1:=rfl
theorem pX:∀ds es:List D,jB ds es=((List.range (min ds.length es.length)).all (λj=>aV (ds.getD j .non) (es.getD j .non))&&ds.length == es.length)
 | [],[]=>rfl
 | [],e::es=>by
  have h:(([]:List D).length == (e::es).length)=false:=rfl
  rw [h,jl];rfl
 | d::ds,[]=>by
  have h:((d::ds).length == ([]:List D).length)=false:=rfl
  rw [h,jl];rfl
 | d::ds,e::es=>by
  have h:=pX ds es
  simp only [jB,h,dG,Nat.succ_min_succ,List.range_succ_eq_map,fy,List.getD_cons_zero,List.all_map]
  have e2:((λj=>aV ((d::ds).getD j .non) ((e::es).getD j .non)) ∘ Nat.succ)=λj=>aV (ds.getD j .non) (es.getD j .non):=by funext j;simp
  rw [e2,Bool.and_assoc]
  congr 2
  simp
mutual
theorem ze:∀d:D,aV d d=true
 | .non=>by simp
 | .bl _=>by simp
 | .int _=>by simp
 | .str _=>by simp
 | .tup ds=>by simpa using pU ds
 | .lst ds=>by simpa using pU ds
 | .dct _ _=>by simp
 | .obj _ ds=>by simpa using pU ds
theorem pU:∀ds:List D,jB ds ds=true
 | []=>by simp
 | d::ds=>by simp [ze d,pU ds]
end
section
variable {X:Cx}{pins:List (Addr×Obj)}{Z:L2.St}{H:Hp}{s:Shared}{F:Fz}
theorem we (I:Inv X pins Z H s) (h:SqL X.K H a xs) (h':SqT X.K H a ys):False:=by
 obtain⟨its,_,p,_⟩:=I.list h
 obtain⟨its',_,p',_⟩:=I.tuple h'
 exact SeqAt.ne_of_list_tuple p.isList (show s.heap.IsTuple a its'.toArray from p') rfl
mutual
theorem RP.inj (I:Inv X pins Z H s):∀{d e:D}{v:V},cg d=true->cg e=true->RP X.K H F d v->RP X.K H F e v->d=e
 | .non,e,v,n,n',h,h'=>by
  have:=h.non;subst this
  cases e with
  | dct _ _=>exact Qn h' RP.noDct
  | obj _ _=>exact Qn n' (by simp)
  | non=>rfl
  | bl _=>exact Qn h'.bl (by simp)
  | int _=>exact Qn h'.int (by simp)
  | str _=>exact Qn h'.str (by simp)
  | tup _=>obtain⟨_,_,q,_⟩:=h'.tup;cases q
  | lst _=>obtain⟨_,_,q,_⟩:=h'.lst;cases q
 | .bl b,e,v,n,n',h,h'=>by
  have:=h.bl;subst this
  cases e with
  | dct _ _=>exact Qn h' RP.noDct
  | obj _ _=>exact Qn n' (by simp)
  | non=>exact Qn h'.non (by simp)
  | bl _=>have:=h'.bl;cases this;rfl
  | int _=>exact Qn h'.int (by simp)
  | str _=>exact Qn h'.str (by simp)
  | tup _=>obtain⟨_,_,q,_⟩:=h'.tup;cases q
  | lst _=>obtain⟨_,_,q,_⟩:=h'.lst;cases q
 | .int b,e,v,n,n',h,h'=>by
  have:=h.int;subst this
  cases e with
  | dct _ _=>exact Qn h' RP.noDct
  | obj _ _=>exact Qn n' (by simp)
  | non=>exact Qn h'.non (by simp)
  | bl _=>exact Qn h'.bl (by simp)
  | int _=>have:=h'.int;cases this;rfl
  | str _=>exact Qn h'.str (by simp)
  | tup _=>obtain⟨_,_,q,_⟩:=h'.tup;cases q
  | lst _=>obtain⟨_,_,q,_⟩:=h'.lst;cases q
 | .str b,e,v,n,n',h,h'=>by
  have:=h.str;subst this
  cases e with
  | dct _ _=>exact Qn h' RP.noDct
  | obj _ _=>exact Qn n' (by simp)
  | non=>exact Qn h'.non (by simp)
  | bl _=>exact Qn h'.bl (by simp)
  | int _=>exact Qn h'.int (by simp)
  | str _=>have:=h'.str;cases this;rfl
  | tup _=>obtain⟨_,_,q,_⟩:=h'.tup;cases q
  | lst _=>obtain⟨_,_,q,_⟩:=h'.lst;cases q
 | .tup ds,e,v,n,n',h,h'=>by
  obtain⟨a,vs,rfl,h1,h2⟩:=h.tup
  cases e with
  | dct _ _=>exact Qn h' RP.noDct
  | obj _ _=>exact Qn n' (by simp)
  | non=>exact Qn h'.non (by simp)
  | bl _=>exact Qn h'.bl (by simp)
  | int _=>exact Qn h'.int (by simp)
  | str _=>exact Qn h'.str (by simp)
  | tup es=>obtain⟨b,ws,q,h3,h4⟩:=h'.tup;cases q;rw [I.tuple_inj h3 h1] at h4;rw [RDs.inj I (by simpa using n) (by simpa using n') h2 h4]
  | lst _=>obtain⟨b,ws,q,h3,h4⟩:=h'.lst;cases q;exact (we I h3 h1).elim
 | .lst ds,e,v,n,n',h,h'=>by
  obtain⟨a,vs,rfl,h1,h2⟩:=h.lst
  cases e with
  | dct _ _=>exact Qn h' RP.noDct
  | obj _ _=>exact Qn n' (by simp)
  | non=>exact Qn h'.non (by simp)
  | bl _=>exact Qn h'.bl (by simp)
  | int _=>exact Qn h'.int (by simp)
  | str _=>exact Qn h'.str (by simp)
  | lst es=>obtain⟨b,ws,q,h3,h4⟩:=h'.lst;cases q;rw [I.list_inj h3 h1] at h4;rw [RDs.inj I (by simpa using n) (by simpa using n') h2 h4]
  | tup _=>obtain⟨b,ws,q,h3,h4⟩:=h'.tup;cases q;exact (we I h1 h3).elim
 | .dct _ _,e,v,n,n',h,h'=>Qn h RP.noDct
 | .obj _ _,e,v,n,n',h,h'=>Qn n (by simp)
theorem RDs.inj (I:Inv X pins Z H s):∀{ds es:List D}{vs:List V},fh ds=true->fh es=true->RDs X.K H F ds vs->RDs X.K H F es vs->ds=es
 | [],es,vs,n,n',h,h'=>by
  simp only [RDs] at h;subst h
  cases es with
  | nil=>rfl
  | cons _ _=>simp only [RDs] at h';obtain⟨_,_,q,_⟩:=h';cases q
 | d::ds,es,vs,n,n',h,h'=>by
  simp only [RDs] at h
  obtain⟨v,r,rfl,h1,h2⟩:=h
  cases es with
  | nil=>simp only [RDs] at h';cases h'
  | cons e es =>
   simp only [RDs] at h'
   obtain⟨v',r',q,h3,h4⟩:=h'
   cases q
   simp only [fh,aI] at n n'
   rw [RP.inj I n.1 n'.1 (.inl h1) (.inl h3),RDs.inj I n.2 n'.2 h2 h4]
end
theorem RDs.vals (h:RDs X.K H F ds vs) (r:Vals vs us) (j:Nat) (hj:j<us.toArray.size) :
  ∃v,RD X.K H F (ds.getD j .non) v/\RelV v us.toArray[j]:=by
 have l1:=RDs.length h
 have l2:=r.length
 have hj':j<us.length:=by simpa using hj
 have hd:ds[j]?=some (ds.getD j .non):=by simp [List.getD,show j<ds.length by omega]
 obtain⟨v,e1,e2⟩:=RDs.get h hd
 obtain⟨u,e3,e4⟩:=r.get e1
 refine⟨v,e2,?_⟩
 have:us.toArray[j]=u:=by
  have:=yao.mp e3
  obtain⟨_,q⟩:=this
  simpa using q
 rw [this];exact e4
theorem lC:∀{ds:List D}(j:Nat),fh ds=true->cg (ds.getD j .non)=true
 | [],j,_=>by simp [List.getD]
 | d::ds,0,h=>by simp at h;simpa using h.1
 | d::ds,j+1,h=>by simp at h;simpa using lC j h.2
theorem uA:∀{n:Nat}{ds:List D}(j:Nat),kR n ds=true->cF n (ds.getD j .non)=true
 | n,[],j,_=>by cases n<;>simp [List.getD]
 | n,d::ds,0,h=>by simp at h;simpa using h.1
 | n,d::ds,j+1,h=>by simp at h;simpa using uA j h.2
def VS (X:Cx) (H:Hp) (F:Fz) (s:Shared):D->Value->Prop
 | .non,u=>u=.none
 | .bl b,u=>u=.bool b
 | .int i,u=>∃t,u=.int i t
 | .str x,u=>∃t,u=.str x t
 | .tup ds,u=>∃a its vs,u=.ref a/\s.heap.IsTuple a its.toArray/\RDs X.K H F ds vs/\Vals vs its
 | .lst ds,u=>∃a its vs,u=.ref a/\s.heap.IsList a its.toArray/\RDs X.K H F ds vs/\Vals vs its
 | .dct _ _,_=>False
 | .obj _ _,_=>True
theorem fK (I:Inv X pins Z H s):∀{d:D}{x:V}{u:Value},RP X.K H F d x->RelV x u->VS X H F s d u
 | .non,x,u,h,r=>by have:=h.non;subst this;exact r
 | .bl _,x,u,h,r=>by have:=h.bl;subst this;exact r
 | .int _,x,u,h,r=>by have:=h.int;subst this;exact r
 | .str _,x,u,h,r=>by have:=h.str;subst this;exact r
 | .tup ds,x,u,h,r=>by
  obtain⟨a,vs,rfl,h1,h2⟩:=h.tup
  obtain⟨its,rv,p,_⟩:=I.tuple h1
  exact⟨a,its,vs,r,p,h2,rv⟩
 | .lst ds,x,u,h,r=>by
  obtain⟨a,vs,rfl,h1,h2⟩:=h.lst
  obtain⟨its,rv,p,_⟩:=I.list h1
  exact⟨a,its,vs,r,p.isList,h2,rv⟩
 | .dct _ _,x,u,h,r=>Qn h RP.noDct
 | .obj _ _,x,u,h,r=>trivial
inductive VW (X:Cx) (H:Hp) (F:Fz) (s:Shared):D->Value->Prop
 | non:VW X H F s .non .none
 | bl (b):VW X H F s (.bl b) (.bool b)
 | int (i t):VW X H F s (.int i) (.int i t)
 | str (x t):VW X H F s (.str x) (.str x t)
 | tup (ds a its vs):s.heap.IsTuple a its.toArray->RDs X.K H F ds vs->Vals vs its->VW X H F s (.tup ds) (.ref a)
 | lst (ds a its vs):s.heap.IsList a its.toArray->RDs X.K H F ds vs->Vals vs its->VW X H F s (.lst ds) (.ref a)
theorem i8 {u:Value}:∀{d:D},VS X H F s d u->cg d=true->VW X H F s d u
 | .non,k,_=>by cases (show u=.none from k);exact .non
 | .bl b,k,_=>by cases (show u=.bool b from k);exact .bl b
 | .int _,⟨t,e⟩,_=>e▸.int _ t
 | .str _,⟨t,e⟩,_=>e▸.str _ t
 | .tup ds,⟨a,its,vs,e,p,h,v⟩,_=>e▸.tup ds a its vs p h v
 | .lst ds,⟨a,its,vs,e,p,h,v⟩,_=>e▸.lst ds a its vs p h v
noncomputable def flt:D->D->Bool
 | .tup _,.tup _=>false
 | .lst _,.lst _=>false
 | _,_=>true
theorem yh {A:Around}{d e:D}{u v:Value}(kx:VW X H F s d u) (ky:VW X H F s e v) (hA:A.units<cLine) (hf:flt d e=true):SeqAt.EqAt A s u v (aV d e)/\SeqAt.RcAt A s u v (aV d e)/\SeqAt.RcNeAt A s u v (!aV d e):=by
 cases kx with
 | non=>cases ky with
  | non=>exact⟨.same _,.none_none,.none_none⟩
  | bl b=>exact⟨.none_bool _,.none_bool _,.none_bool _⟩
  | int b t=>exact⟨.none_int _ _,.none_int _ _,.none_int _ _⟩
  | str b t=>exact⟨.none_str _ _,.none_str _ _,.none_str _ _⟩
  | tup es b its2 vs2 p2 hd2 hv2=>exact⟨.none_tuple p2 hA,.none_tuple p2 hA,.none_tuple p2 hA⟩
  | lst es b its2 vs2 p2 hd2 hv2=>exact⟨.none_list p2 hA,.none_list p2 hA,.none_list p2 hA⟩
 | bl c=>cases ky with
  | non=>exact⟨.bool_none _,.bool_none _,.bool_none _⟩
  | bl b=>exact⟨.bool_bool _ _,.bool_bool _ _,.bool_bool _ _⟩
  | int b t=>exact⟨.bool_int _ _ _,.bool_int _ _ _,.bool_int _ _ _⟩
  | str b t=>exact⟨.bool_str _ _ _,.bool_str _ _ _,.bool_str _ _ _⟩
  | tup es b its2 vs2 p2 hd2 hv2=>exact⟨.bool_tuple _ p2 hA,.bool_tuple _ p2 hA,.bool_tuple _ p2 hA⟩
  | lst es b its2 vs2 p2 hd2 hv2=>exact⟨.bool_list _ p2 hA,.bool_list _ p2 hA,.bool_list _ p2 hA⟩
 | int c tc=>cases ky with
  | non=>exact⟨.int_none _ _,.int_none _ _,.int_none _ _⟩
  | bl b=>exact⟨.int_bool _ _ _,.int_bool _ _ _,.int_bool _ _ _⟩
  | int b t=>exact⟨.int_int _ _ _ _,.int_int _ _ _ _,.int_int _ _ _ _⟩
  | str b t=>exact⟨.int_str _ _ _ _,.int_str _ _ _ _,.int_str _ _ _ _⟩
  | tup es b its2 vs2 p2 hd2 hv2=>exact⟨.int_tuple _ _ p2 hA,.int_tuple _ _ p2 hA,.int_tuple _ _ p2 hA⟩
  | lst es b its2 vs2 p2 hd2 hv2=>exact⟨.int_list _ _ p2 hA,.int_list _ _ p2 hA,.int_list _ _ p2 hA⟩
 | str c tc=>cases ky with
  | non=>exact⟨.str_none _ _,.str_none _ _,.str_none _ _⟩
  | bl b=>exact⟨.str_bool _ _ _,.str_bool _ _ _,.str_bool _ _ _⟩
  | int b t=>exact⟨.str_int _ _ _ _,.str_int _ _ _ _,.str_int _ _ _ _⟩
  | str b t=>exact⟨.str_str _ _ _ _,.str_str _ _ _ _,.str_str _ _ _ _⟩
  | tup es b its2 vs2 p2 hd2 hv2=>exact⟨.str_tuple _ _ p2 hA,.str_tuple _ _ p2 hA,.str_tuple _ _ p2 hA⟩
  | lst es b its2 vs2 p2 hd2 hv2=>exact⟨.str_list _ _ p2 hA,.str_list _ _ p2 hA,.str_list _ _ p2 hA⟩
 | tup ds a its vs p hd hv=>cases ky with
  | non=>exact⟨.tuple_none p hA,.tuple_none p hA,.tuple_none p hA⟩
  | bl b=>exact⟨.tuple_bool _ p hA,.tuple_bool _ p hA,.tuple_bool _ p hA⟩
  | int b t=>exact⟨.tuple_int _ _ p hA,.tuple_int _ _ p hA,.tuple_int _ _ p hA⟩
  | str b t=>exact⟨.tuple_str _ _ p hA,.tuple_str _ _ p hA,.tuple_str _ _ p hA⟩
  | tup es b its2 vs2 p2 hd2 hv2=>cases hf
  | lst es b its2 vs2 p2 hd2 hv2=>exact⟨.tuple_list p p2 hA,.tuple_list p p2 hA,.tuple_list p p2 hA⟩
 | lst ds a its vs p hd hv=>cases ky with
  | non=>exact⟨.list_none p hA,.list_none p hA,.list_none p hA⟩
  | bl b=>exact⟨.list_bool _ p hA,.list_bool _ p hA,.list_bool _ p hA⟩
  | int b t=>exact⟨.list_int _ _ p hA,.list_int _ _ p hA,.list_int _ _ p hA⟩
  | str b t=>exact⟨.list_str _ _ p hA,.list_str _ _ p hA,.list_str _ _ p hA⟩
  | tup es b its2 vs2 p2 hd2 hv2=>exact⟨.list_tuple p p2 hA,.list_tuple p p2 hA,.list_tuple p p2 hA⟩
  | lst es b its2 vs2 p2 hd2 hv2=>cases hf
theorem xc {d e:D}(h:¬flt d e=true):(∃ds es,d=.tup ds/\e=.tup es)∨∃ds es,d=.lst ds/\e=.lst es:=by
 cases d with
 | tup ds=>cases e with
  | tup es=>exact .inl ⟨_,_,rfl,rfl⟩
  | _=>exact Qn rfl h
 | lst ds=>cases e with
  | lst es=>exact .inr ⟨_,_,rfl,rfl⟩
  | _=>exact Qn rfl h
 | _=>exact Qn rfl h
theorem zu {x:V}{a:Addr}(h:RelV x (.ref a)):x=.ref a:=by
 cases x<;>first|(cases h;done)|(obtain⟨_,h⟩:=h;cases h;done)|(have z:Value.ref _=Value.ref _:=h;cases z;rfl)
theorem rS (I:Inv X pins Z H s) (n:Nat):∀(d e:D) (x y:V) (u v:Value) (A:Around),RP X.K H F d x->RP X.K H F e y->RelV x u->RelV y v->(cF n d||cF n e)=true->cg d=true->cg e=true->A.units+n<cLine ->
   SeqAt.EqAt A s u v (aV d e)/\SeqAt.RcAt A s u v (aV d e)/\SeqAt.RcNeAt A s u v (!aV d e):=by
 induction n with
 | zero =>
  intro d e x y u v A hx hy ru rv hs hn hn' hu
  refine yh (i8 (fK I hx ru) hn) (i8 (fK I hy rv) hn') (by omega) (Decidable.byContradiction λh=>?_)
  rcases xc h with ⟨_,_,rfl,rfl⟩|⟨_,_,rfl,rfl⟩<;>cases hs
 | succ n ih =>
  intro d e x y u v A hx hy ru rv hs hn hn' hu
  have hA:A.units<cLine:=by omega
  by_cases hf:flt d e=true
  ·exact yh (i8 (fK I hx ru) hn) (i8 (fK I hy rv) hn') hA hf
  have hj:∀{ds es:List D} {vs vs2:List V} {its its2:List Value},RDs X.K H F ds vs->Vals vs its->RDs X.K H F es vs2->Vals vs2 its2->(kR n ds||kR n es)=true->fh ds=true->fh es=true ->
    ∀j (h1:j<its.toArray.size) (h2:j<its2.toArray.size),SeqAt.EqAt A.in1 s its.toArray[j] its2.toArray[j] (aV (ds.getD j .non) (es.getD j .non)):=λhd hv hd2 hv2 hs hn hn' j h1 h2=>by
   obtain⟨v1,q1,q2⟩:=RDs.vals hd hv j h1
   obtain⟨v2,q3,q4⟩:=RDs.vals hd2 hv2 j h2
   refine (ih _ _ v1 v2 _ _ A.in1 (.inl q1) (.inl q3) q2 q4 ?_ (lC j hn) (lC j hn') (by rw [z9];omega)).1
   rw [dZ] at hs ⊢
   exact hs.imp (uA j) (uA j)
  have two:∀{a b:Addr},u=.ref a->v=.ref b->SeqAt.RcAt A s u v (aV d e)->SeqAt.EqAt A s u v (aV d e):=λ{a b} e1 e2 r=>by
   subst e1 e2
   by_cases hab:a=b
   ·subst hab
    rw [zu ru] at hx
    rw [zu rv] at hy
    rw [RP.inj I hn hn' hx hy,ze]
    exact SeqAt.EqAt.same _
   ·exact SeqAt.EqAt.of_refs hab r
  rcases xc hf with ⟨ds,es,rfl,rfl⟩|⟨ds,es,rfl,rfl⟩
  ·cases i8 (fK I hx ru) hn with
   | tup _ a its vs p hd hv=>cases i8 (fK I hy rv) hn' with
    | tup _ b its2 vs2 p2 hd2 hv2 =>
     have e1:((List.range (min its.toArray.size its2.toArray.size)).all (λj=>aV (ds.getD j .non) (es.getD j .non))&&its.toArray.size == its2.toArray.size)=aV (.tup ds) (.tup es):=by
      simp only [aV,pX,aH,<-hv.length,<-hv2.length,RDs.length hd,RDs.length hd2]
     have r1:=SeqAt.RcAt.tuples p p2 hA (hj hd hv hd2 hv2 hs hn hn')
     have r2:=SeqAt.RcNeAt.tuples p p2 hA (hj hd hv hd2 hv2 hs hn hn')
     rw [e1] at r1 r2
     exact⟨two rfl rfl r1,r1,r2⟩
  ·cases i8 (fK I hx ru) hn with
   | lst _ a its vs p hd hv=>cases i8 (fK I hy rv) hn' with
    | lst _ b its2 vs2 p2 hd2 hv2 =>
     have l1:=RDs.length hd
     have l2:=RDs.length hd2
     have l3:=hv.length
     have l4:=hv2.length
     have both:SeqAt.RcAt A s (.ref a) (.ref b) (aV (.lst ds) (.lst es))/\SeqAt.RcNeAt A s (.ref a) (.ref b) (!aV (.lst ds) (.lst es)):=by
      by_cases hsz:its.toArray.size=its2.toArray.size
      ·have e1:(List.range its.toArray.size).all (λj=>aV (ds.getD j .non) (es.getD j .non))=aV (.lst ds) (.lst es):=by
        have hl:ds.length=es.length:=by simp only [aH] at hsz;omega
        have hm:its.toArray.size=min ds.length es.length:=by simp only [aH];omega
        simp only [aV,pX,hm,hl,beq_self_eq_true,jk]
       have r1:=SeqAt.RcAt.lists p p2 hsz hA (hj hd hv hd2 hv2 hs hn hn')
       have r2:=SeqAt.RcNeAt.lists p p2 hsz hA (hj hd hv hd2 hv2 hs hn hn')
       rw [e1] at r1 r2
       exact⟨r1,r2⟩
      ·have hb:(its.toArray.size != its2.toArray.size)=true:=by simpa using hsz
       have e1:aV (.lst ds) (.lst es)=false:=by
        have hl:(ds.length == es.length)=false:=by
         simp only [aH] at hsz
         rw [beq_eq_false_iff_ne];omega
        simp only [aV,pX,hl,jl]
       rw [e1]
       exact⟨SeqAt.RcAt.lists_lengths p p2 hb hA,SeqAt.RcNeAt.lists_lengths p p2 hb hA⟩
     exact⟨two rfl rfl both.1,both⟩
end
end Dw
namespace Dw
section
open PySem PySem.W PySem.Calls PyProof.Rows
variable {prog:Program}{w:World}{A:Around}{E:Value->Shared->Prop}{s:Shared}
def IR:List Value->List Int->Prop
 | [],[]=>True
 | v::vs,i::is=>(∃t,v=.int i t)/\IR vs is
 | _,_=>False
theorem IR.len:∀{vs:List Value}{is:List Int},IR vs is->vs.length=is.length
 | [],[],_=>rfl
 | _::_,_::_,x=>congrArg (·+1) x.2.len
theorem zI {Q:Bool->Shared->Prop}:∀{a b:List Int}{va vb:List Value}(i:Nat),IR va a->IR vb b->Q (br a b) s->KatLex prog w A true (decide (a.length<b.length)) Q (va.zip vb) i s
 | [],[],[],[],i,_,_,h=>kat_nil h
 | [],_::_,[],_::_,i,_,_,h=>by
  rw [List.zip_nil_left,Qk (by simp)]
  exact kat_nil h
 | _::_,[],_::_,[],i,_,_,h=>by
  rw [List.zip_nil_right,Qj (by simp)]
  exact kat_nil h
 | x::a,y::b,v::va,u::vb,i,ha,hb,h=>by
  obtain⟨⟨t,rfl⟩,ha⟩:=ha
  obtain⟨⟨t',rfl⟩,hb⟩:=hb
  rw [List.zip_cons_cons]
  refine kat_cons (wpAny_eqBool_int ?_)
  rw [br] at h
  by_cases e:x=y
  ·rw [Ql e] at h
   rw [show (x == y)=true from beq_iff_eq.mpr e]
   refine kat_yes ?_
   have:=zI (i+1) ha hb h
   rw [show decide ((x::a).length<(y::b).length)=decide (a.length<b.length) by simp]
   exact this
  ·rw [Qm e] at h
   rw [show (x == y)=false from beq_eq_false_iff_ne.mpr e]
   refine kat_no ?_
   cases i with
   | zero=>exact oneLt_int h
   | succ i=>exact kat_one _ _ (wpAny_lt_int h)
def TpAt (h:Heap) (v:Value) (is:List Int):Prop:=∃x o n vs,v=.ref x/\h.get? x=some o/\o.cls=.type "tuple"/\o.data=.seq vs.toArray n/\IR vs is
theorem TpAt.mv {h h':Heap}{v:Value}{i:List Int}(x:TpAt h v i) (k:∀a o,v=.ref a->h.get? a=some o->h'.get? a=some o):TpAt h' v i:=
 let ⟨a,o,n,vs,e,h1,h2⟩:=x;⟨a,o,n,vs,e,k a o e h1,h2⟩
theorem qSf {v z:Value}{p q:List Int}{Q:Bool->Shared->Prop}(hv:TpAt s.heap v p) (hz:TpAt s.heap z q) (h:Q (br p q) s):wpAny (model prog w) A (keyLt' (tuples' true) v z) Q E s:=by
 obtain⟨x,o,n,r,rfl,x1,x2,x3,x4⟩:=hv
 obtain⟨y,o',n',r',rfl,y1,y2,y3,y4⟩:=hz
 refine kat_lt x1 x3 y1 y3 ?_
 rw [aH,aH,x4.len,y4.len]
 exact zI 0 x4 y4 h
def AllT (h:Heap):List Value->List (List Int)->Prop
 | [],[]=>True
 | v::vs,p::ps=>TpAt h v p/\AllT h vs ps
 | _,_=>False
theorem AllT.len {h:Heap}:∀{vs:List Value}{ps:List (List Int)},AllT h vs ps->vs.length=ps.length
 | [],[],_=>rfl
 | _::_,_::_,x=>congrArg (·+1) x.2.len
theorem AllT.mv {h h':Heap}:∀{vs:List Value}{ps:List (List Int)},AllT h vs ps->(∀v∈vs,∀a o,v=.ref a->h.get? a=some o->h'.get? a=some o)->AllT h' vs ps
 | [],[],_,_=>trivial
 | v::_,_::_,x,k=>⟨x.1.mv (k v bh),AllT.mv x.2 λv hv=>k v (bC _ hv)⟩
theorem AllT.tups {h:Heap}:∀{vs:List Value}{ps:List (List Int)},AllT h vs ps->(∀t∈ps,t≠[])->∃fs:List Value,KatTups h vs fs/\fs.length=ps.length/\∀v∈fs,∃i t,v=.int i t
 | [],[],_,_=>⟨[],trivial,rfl,λ_ h=>nomatch h⟩
 | _::vs,p::ps,x,hn=>by
  obtain⟨fs,h1,h2,h3⟩:=AllT.tups (vs:=vs) (ps:=ps) x.2 λt ht=>hn t (bC _ ht)
  obtain⟨a,o,n,r,rfl,e1,e2,e3,e4⟩:=x.1
  match p,r,e4,hn p bh with
  | q::p,u::r,e4,_ =>
   obtain⟨⟨t,rfl⟩,_⟩:=e4
   refine⟨.int q t::fs,KatTups.cons e1 e2 e3 rfl h1,congrArg (·+1) h2,λv hv=>?_⟩
   rcases yag.mp hv with rfl|hv
   ·exact⟨_,_,rfl⟩
   ·exact h3 v hv
  | [],_,_,hp=>exact Qn rfl hp
theorem qIc {vs:List Value}{ps:List (List Int)}{Q:SortKind->Shared->Prop}(h:AllT s.heap vs ps) (hn:∀t∈ps,t≠[]) (h0:0<vs.length) (k:Q (tuples' true) s):wpAny (model prog w) A (keyKind' vs.toArray) Q E s:=by
 obtain⟨fs,h1,h2,h3⟩:=h.tups hn
 refine kat_kind (T:=.type "int") h1 (by rw [h2,<-h.len];exact h0) (λv hv=>?_) (by decide) k
 obtain⟨i,t,rfl⟩:=h3 v hv
 exact Looks.of_pure rfl
theorem qJV {a:Addr}{vs:List Value}{n:Nat}{P:PySem.Fin->Shared->Prop}(ho:s.heap.get? a=some (seqObj "list" vs.toArray n)) (h2:vs.length<2)
  (k:∀h' m,(∀b o,b≠a->s.heap.get? b=some o->h'.get? b=some o)->h'.get? a=some (seqObj "list" vs.toArray m)->P (.done (.ret .none)) { s with heap:=h' }) :
  wpAny (model prog w) A (Builtin.«list.sort» ⟨[.ref a],[]⟩) P E s:=by
 have s1:=Heap.SameBut.update s.heap a (Obj.mapSeq λ_=>(#[]:Array Value))
 obtain⟨e1,ho1⟩:∃e1,(s.heap.update a (Obj.mapSeq λ_=>(#[]:Array Value))).get? a=some (seqObj "list" #[] e1):=⟨_,get?_update_seq ho λ_=>#[]⟩
 generalize hH:((s.heap.update a (Obj.mapSeq λ_=>(#[]:Array Value))).push (seqObj "tuple" vs.toArray 0)).push (seqObj "list" #[] 0)=H3
 have kp:∀b o,b≠a->s.heap.get? b=some o->H3.get? b=some o:=λb o hb e=>by
  rw [<-hH];exact Qg _ (Qg _ (s1.extBut b o hb e))
 have ha3:H3.get? a=some (seqObj "list" #[] e1):=by rw [<-hH];exact Qg _ (Qg _ ho1)
 rw [list_sort_plain]
 refine Qc (listItems_at ho rfl (Qc (listUpdate_at ho rfl ?_ (by rw [aH,sizeLine_eq];omega) (fx _))))
 refine Qc (seqEpoch_at ho1 rfl (Qc (wpAny_newTuple ?_ (by show vs.length<=_;rw [sizeLine_eq];omega))))
 refine Qc (wpAny_newList (wpAny_holding ?_) (fx _))
 show wpAny (model prog w) A _ P E { s with heap:=((s.heap.update a (Obj.mapSeq λ_=>(#[]:Array Value))).push (seqObj "tuple" vs.toArray 0)).push (seqObj "list" #[] 0) }
 rw [hH];dsimp only
 have hn2:vs.toArray.size<2:=by rw [aH];omega
 rw [Ql hn2,Ql hn2]
 refine Qc (Qd ?_)
 rw [StateT.run_pure]
 refine Qc (Qd ?_)
 dsimp only
 have hout:(arrOf (SortSt.mk' general' (vs.toArray.zip vs.toArray) #[] 7 none)).map (·.2)=vs.toArray:=by
  show (vs.toArray.zip vs.toArray).map (·.2)=vs.toArray
  refine Array.ext' ?_
  rw [Array.toList_map,Array.toList_zip]
  exact List.map_snd_zip (ar _)
 rw [hout]
 obtain⟨c2,hc2⟩:∃c2,(H3.update a (Obj.mapSeq λ_=>vs.toArray)).get? a=some (seqObj "list" vs.toArray c2):=⟨_,get?_update_seq ha3 λ_=>vs.toArray⟩
 refine Qc (seqEpoch_at ha3 rfl (Qc (listUpdate_at ha3 rfl ?_ (fx _) (by rw [aH,sizeLine_eq];omega))))
 simp only [bne_self_eq_false,fB,if_false]
 exact Qd (k _ c2 (λb o hb e=>(Heap.SameBut.update H3 a _).extBut b o hb (kp b o hb e)) hc2)
theorem IR.inj:∀{vs:List Value}{a b:List Int},IR vs a->IR vs b->a=b
 | [],[],[],_,_=>rfl
 | _::_,_::_,_::_,⟨⟨t,e⟩,x⟩,⟨⟨t',e'⟩,y⟩=>by
  rw [e] at e'
  cases e'
  rw [IR.inj x y]
theorem TpAt.inj {h:Heap}{v:Value}{a b:List Int}(x:TpAt h v a) (y:TpAt h v b):a=b:=by
 obtain⟨p,o,n,r,rfl,x1,x2,x3,x4⟩:=x
 obtain⟨p',o',n',r',e,y1,y2,y3,y4⟩:=y
 cases e
 rw [x1] at y1
 cases y1
 rw [x3] at y3
 injection y3 with e1 e2
 have e1:r=r':=by simpa using e1
 subst e1
 exact x4.inj y4
open Classical in
noncomputable def f9 (h:Heap) (v:Value):List Int:=if e:∃t,TpAt h v t then e.choose else []
theorem pO {h:Heap}{v:Value}{t:List Int}(x:TpAt h v t):f9 h v=t:=by
 have e:∃t,TpAt h v t:=⟨t,x⟩
 unfold f9
 rw [dif_pos e]
 exact e.choose_spec.inj x
theorem AllT.map {h:Heap}:∀{vs:List Value}{ps:List (List Int)},AllT h vs ps->vs.map (f9 h)=ps
 | [],[],_=>rfl
 | v::vs,p::ps,x=>by rw [cT,pO x.1,AllT.map x.2]
theorem AllT.mem {h:Heap}:∀{vs:List Value}{ps:List (List Int)},AllT h vs ps->∀v∈vs,TpAt h v (f9 h v)
 | v::vs,p::ps,x,u,hu=>by
  rcases yag.mp hu with rfl|hu
  ·rw [pO x.1];exact x.1
  ·exact AllT.mem x.2 u hu
theorem pE:∀a:List Int,br a a=false
 | []=>rfl
 | x::a=>by rw [br,Ql rfl];exact pE a
theorem oH:∀a b c:List Int,br a b=true->br b c=true->br a c=true
 | [],b,[],h1,h2=>by cases b<;>simp [br] at h1 h2
 | [],_,_::_,_,_=>rfl
 | _::_,[],_,h1,_=>by simp [br] at h1
 | _::_,_::_,[],_,h2=>by simp [br] at h2
 | x::a,y::b,z::c,h1,h2=>by
  rw [br] at h1 h2 ⊢
  by_cases e1:x=y
  ·rw [Ql e1] at h1
   by_cases e2:y=z
   ·rw [Ql e2] at h2
    rw [Ql (e1.trans e2)]
    exact oH a b c h1 h2
   ·rw [Qm e2] at h2
    rw [e1,Qm e2]
    exact h2
  ·rw [Qm e1] at h1
   by_cases e2:y=z
   ·rw [<-e2,Qm e1]
    exact h1
   ·rw [Qm e2] at h2
    have h1:=Qp h1
    have h2:=Qp h2
    rw [Qm (by omega)]
    exact Qk (by omega)
theorem oG:∀a b c:List Int,br a c=true->br a b=true∨br b c=true
 | [],[],_,h=>.inr h
 | [],_::_,_,_=>.inl rfl
 | _::_,_,[],h=>by simp [br] at h
 | _::_,[],_::_,_=>.inr rfl
 | x::a,y::b,z::c,h=>by
  rw [br] at h
  rw [br,br]
  by_cases e1:x=y
  ·rw [Ql e1]
   by_cases e2:y=z
   ·rw [Ql e2]
    rw [Ql (e1.trans e2)] at h
    exact oG a b c h
   ·rw [Qm e2]
    rw [e1,Qm e2] at h
    exact .inr h
  ·rw [Qm e1]
   by_cases e2:y=z
   ·rw [Ql e2]
    rw [<-e2,Qm e1] at h
    exact .inl h
   ·rw [Qm e2]
    by_cases e3:x=z
    ·by_cases e4:x<y
     ·exact .inl (Qk e4)
     ·exact .inr (Qk (by omega))
    ·rw [Qm e3] at h
     have h:=Qp h
     by_cases e4:x<y
     ·exact .inl (Qk e4)
     ·exact .inr (Qk (by omega))
theorem xo:∀a b:List Int,br a b=false->br b a=false->a=b
 | [],[],_,_=>rfl
 | [],_::_,h,_=>by simp [br] at h
 | _::_,[],_,h=>by simp [br] at h
 | x::a,y::b,h1,h2=>by
  rw [br] at h1 h2
  by_cases e:x=y
  ·rw [Ql e] at h1
   rw [Ql e.symm] at h2
   rw [e,xo a b h1 h2]
  ·rw [Qm e] at h1
   rw [Qm (λz=>e z.symm)] at h2
   have h1:=of_decide_eq_false h1
   have h2:=of_decide_eq_false h2
   omega
theorem m9 (ts:List (List Int)):(gM ts).Perm ts:=List.mergeSort_perm _ _
theorem sZ (ts:List (List Int)):(gM ts).Pairwise λa b=>br b a=false:=by
 have:=List.pairwise_mergeSort (le:=λa b:List Int=>!br b a) (λa b c h1 h2=>?_) (λa b=>?_) ts
 ·exact List.Pairwise.imp (λh=>by simpa using h) this
 ·simp only [qK] at h1 h2 ⊢
  cases e:br c a with
  | false=>rfl
  | true =>
   rcases oG c b a e with h|h
   ·rw [h2] at h;cases h
   ·rw [h1] at h;cases h
 ·cases e:br b a with
  | false=>rfl
  | true =>
   cases e':br a b with
   | false=>rfl
   | true=>have:=oH _ _ _ e e';rw [pE] at this;cases this
theorem sS:∀{xs ys:List (List Int)},xs.Perm ys->xs.Pairwise (λa b=>br b a=false)->ys.Pairwise (λa b=>br b a=false)->xs=ys
 | [],ys,h,_,_=>(List.nil_perm.mp h).symm
 | x::xs,[],h,_,_=>by simpa using h.length_eq
 | x::xs,y::ys,h,h1,h2=>by
  obtain⟨a1,a2⟩:=ybo.mp h1
  obtain⟨b1,b2⟩:=ybo.mp h2
  have e:x=y:=by
   rcases yag.mp (h.mem_iff.mp bh) with e|hx
   ·exact e
   ·rcases yag.mp (h.mem_iff.mpr bh) with e|hy
    ·exact e.symm
    ·exact xo x y (b1 x hx) (a1 y hy)
  subst e
  rw [sS (h.cons_inv) a2 b2]
theorem qHq {a:Addr}{vs:List Value}{ps:List (List Int)}{n:Nat}{P:PySem.Fin->Shared->Prop}(ho:s.heap.get? a=some (seqObj "list" vs.toArray n)) (hp:AllT s.heap vs ps) (hn:∀t∈ps,t≠[]) (hne:∀v∈vs,v≠.ref a) (hz:vs.length<=sizeLine)
  (k:∀h' m (us:List Value),(∀b o,b≠a->s.heap.get? b=some o->h'.get? b=some o)->us.Perm vs->us.map (f9 s.heap)=gM ps->h'.get? a=some (seqObj "list" us.toArray m)->P (.done (.ret .none)) { s with heap:=h' }) :
  wpAny (model prog w) A (Builtin.«list.sort» ⟨[.ref a],[]⟩) P E s:=by
 have hl:=hp.len
 have hm:=hp.map
 by_cases h2:vs.length<2
 ·refine qJV ho h2 λh' m kp ha=>k h' m vs kp (List.Perm.refl _) ?_ ha
  rw [hm]
  match ps,(by omega:ps.length<2) with
  | [],_=>simp [gM]
  | [_],_=>simp [gM]
 ·have mv:∀s':Shared,(∀b o,b≠a->s.heap.get? b=some o->s'.heap.get? b=some o)->AllT s'.heap vs ps:=λs' kp=>hp.mv λv hv b o e q=>kp b o (λz=>hne v hv (by rw [e,z])) q
  refine So.sort_any (κ:=tuples' true) (ρ:=λv=>So.rank br ps (f9 s.heap v)) ho (by omega) hz (λs' kp=>qIc (mv s' kp) hn (by omega) ⟨rfl,rfl⟩) (λs' kp x hx y hy Q E hQ=>?_) λh' m us kp hu hup ha=>k h' m us kp hu ?_ ha
  ·rw [So.rank_lt pE oH oG (by rw [<-hm];exact List.mem_map_of_mem hx)] at hQ
   have tx:=(hp.mem x hx).mv λb o e q=>kp b o (λz=>hne x hx (by rw [e,z])) q
   have ty:=(hp.mem y hy).mv λb o e q=>kp b o (λz=>hne y hy (by rw [e,z])) q
   exact qSf tx ty hQ
  ·refine sS ((hu.map _).trans (by rw [hm];exact (m9 ps).symm)) ?_ (sZ ps)
   rw [List.pairwise_map]
   refine List.Pairwise.imp_of_mem (λ{x y} hx hy hxy=>?_) hup
   have e:=So.rank_lt pE oH oG (l:=ps) (x:=f9 s.heap y) (y:=f9 s.heap x) (by rw [<-hm];exact List.mem_map_of_mem (hu.mem_iff.mp hy))
   rw [<-e]
   exact Qj (by omega)
end
section
open PySem PySem.Spec PyProof.Rows L2
variable {X:Cx}
def TpV (K:Qb) (H:Hp):List V->List (List Int)->Prop
 | [],[]=>True
 | v::vs,i::is=>(∃a,v=.ref a/\SqT K H a (i.map V.int))/\TpV K H vs is
 | _,_=>False
theorem TpV.len {K:Qb}{H:Hp}:∀{vs:List V}{is:List (List Int)},TpV K H vs is->vs.length=is.length
 | [],[],_=>rfl
 | _::_,_::_,x=>congrArg (·+1) x.2.len
theorem wb:∀{is:List Int}{us:List Value},Vals (is.map V.int) us->IR us is
 | [],_,.nil=>trivial
 | _::_,_,.cons r t=>⟨r,wb t⟩
theorem xQ {pins:List (Addr×Obj)}{Z:L2.St}{H:Hp}{s:Shared}(I:Inv X pins Z H s):∀{vs:List V}{is:List (List Int)}{us:List Value},TpV X.K H vs is->Vals vs us->AllT s.heap us is
 | [],[],_,_,.nil=>trivial
 | v::vs,i::is,_,⟨⟨a,e,hq⟩,hr⟩,.cons r t=>by
  subst e
  cases r
  refine⟨?_,xQ I hr t⟩
  obtain⟨its,rv,⟨o,e1,e2,n,e3⟩,hz⟩:=I.tuple hq
  exact⟨a,o,n,_,rfl,e1,e2,e3,wb rv⟩
noncomputable def qW:Value->V
 | .ref a=>.ref a
 | _=>.non
theorem wZ {K:Qb}{H:Hp}{h:Heap}:∀{us:List Value},(∀u∈us,∃a,u=.ref a/\SqT K H a ((f9 h u).map V.int))->TpV K H (us.map qW) (us.map (f9 h))/\Vals (us.map qW) us
 | [],_=>⟨trivial,.nil⟩
 | u::us,hu=>by
  obtain⟨a,e,q⟩:=hu u bh
  obtain⟨x,y⟩:=wZ (us:=us) λv hv=>hu v (bC _ hv)
  subst e
  exact⟨⟨⟨a,rfl,q⟩,x⟩,.cons rfl y⟩
theorem qMx {K:Qb}{H:Hp}{h:Heap}:∀(vs:List V) (is:List (List Int)) (us:List Value),TpV K H vs is->Vals vs us->AllT h us is->∀u∈us,∃a,u=.ref a/\SqT K H a ((f9 h u).map V.int):=by
 intro vs
 induction vs with
 | nil =>
  intro is us _ r _ u hu
  cases r
  cases hu
 | cons v vs ih =>
  intro is us tp r ta u hu
  cases is with
  | nil=>exact tp.elim
  | cons i is =>
   cases r with
   | cons r1 t =>
    obtain⟨⟨a,e,hq⟩,hr⟩:=tp
    obtain⟨ta,tr⟩:=ta
    rcases yag.mp hu with rfl|hu
    ·subst e
     cases r1
     rw [pO ta]
     exact⟨a,rfl,hq⟩
    ·exact ih is _ hr t tr u hu
theorem qEV:CallR X (.builtin "sorted") (λxs H Q=>∃(p:Addr) (vs:List V) (is:List (List Int)),xs=[.ref p]/\SqL X.K H p vs/\TpV X.K H vs is/\(∀t∈is,t≠[])/\∀l ws,H l=none->TpV X.K H ws (gM is)->Q (.ref l) (av H l (.lst ws))):=by
 intro pins s Z H xs us Q I r h
 obtain⟨p,vs,is,rfl,hq,hh,hnd,q⟩:=h
 obtain⟨u,rfl,ru⟩:=gd r
 cases ru
 obtain⟨its,n,sl,rv,hls,e,hz0⟩:=Inv.lobj I hq
 have hlen:its.length=is.length:=by rw [<-rv.length];exact hh.len
 have hsz:its.length<=sizeLine:=by rw [<-hls];exact hz0
 refine PySem.Calls.call_function_entry kind_sorted plain_sorted entry_sorted (args_sorted1 _) ?_
 unfold Builtin.«sorted»
 refine Qc (m:=checkCount "sorted" 1 1 _) (Qd ?_)
 refine Qc (wpAny_collect_seq p (.inl rfl) e rfl rfl (λh' kp=>?_) (by rw [aH];omega))
 refine Qc (wpAny_newList ?_ (by rw [List.toList_toArray];omega))
 have I1:Inv X pins Z H { s with heap:=h' }:=I.kept (t':=s.toks) kp
 have hoL:(h'.push (seqObj "list" its.toArray 0)).get? h'.objs.size=some (seqObj "list" its.toArray 0):=Qh _ rfl
 have hA:AllT h' its is:=xQ I1 hh rv
 have hA1:AllT (h'.push (seqObj "list" its.toArray 0)) its is:=hA.mv λv hv a o e q=>Qg _ q
 have back:∀v∈its,v≠.ref h'.objs.size:=λv hv z=>by
  obtain⟨x,o,_,_,e,e1,_⟩:=hA.mem v hv
  rw [e] at z
  cases z
  exact Qn (Qi e1) (fA _)
 refine Qc (wpAny_holding (wpAny_call_entry slot_list_sort ⟨_,hoL,rfl⟩ entry_list_sort (qHq hoL hA1 hnd back hsz λh'' m us kp2 hu hkey ha=>⟨_,rfl,?_⟩) (args_list_sort _)))
 have keys:us.map (f9 h')=gM is:=by
  rw [<-hkey]
  refine qL λu hu'=>?_
  have:=hA1.mem u (hu.mem_iff.mp hu')
  have t':=hA.mem u (hu.mem_iff.mp hu')
  exact (pO (t'.mv λa o e q=>Qg _ q)).symm
 obtain⟨tp,tv⟩:=wZ (h:=h') (us:=us) λu hu'=>qMx _ _ _ hh rv hA u (hu.mem_iff.mp hu')
 rw [keys] at tp
 refine Qd ⟨.ref h'.objs.size,rfl,.ref h'.objs.size,_,I1.laid (t':=s.toks) (h':=h'') (a:=h'.objs.size) (o:=.lst (us.map qW)) (λb ob hb=>kp2 b ob (bK (Qi hb)) (Qg _ hb)) (ar _) ⟨?_,us,m,tv,ha⟩,rfl,q _ _ (I1.hok.fresh (ar _)) tp⟩
 rw [aC,hu.length_eq]
 exact hsz
theorem qKh {f:Value}{r r':List V->Hp->VK->Prop}(h:CallR X f r) (h':CallR X f r'):CallR X f (λxs H Q=>r xs H Q∨r' xs H Q):=
 λpins s Z H xs us Q I rv z=>z.elim (h pins s Z H xs us Q I rv) (h' pins s Z H xs us Q I rv)
end
end Dw
namespace Dw
open PySem PySem.Spec PyProof.Rows L2
noncomputable def mI:Ty->String
 | .int=>"int"|.bool=>"bool"|.tuple=>"tuple"|.list=>"list"|.str=>"str"
noncomputable def qKD:D->String
 | .non=>"NoneType"|.bl _=>"bool"|.int _=>"int"|.str _=>"str"|.tup _=>"tuple"|.lst _=>"list"|.dct _ _=>"NoneType"|.obj _ _=>"NoneType"
theorem qNS (K:Qb) (ty:Ty) (d:D):PySem.W.kitOne K (.type (qKD d)) (.type (mI ty))=some (nV ty d):=by
 cases ty<;>cases d<;>kernel_rfl
section
variable {X:Cx}
theorem qI9:CallR X (.builtin "isinstance") (λxs H Q=>∃(x:V) (d:D) (F:Fz) (ty:Ty) (b:Bool),xs=[x,.ty (mI ty)]/\RP X.K H F d x/\nU ty d=some (false,.bl b)/\Q (.bl b) H):=by
 intro pins s Z H xs us Q I r h
 obtain⟨x,d,F,ty,b,rfl,hx,hb,q⟩:=h
 have hb2:b=nV ty d:=by cases d<;>first|(cases hb;rfl)|cases hb
 subst hb2
 obtain⟨u,w',rfl,ru,rw'⟩:=rW r
 have rw'':w'=Value.type (mI ty):=rw'
 subst rw''
 have fin:∀tk,EP X pins Z Q (.bool (nV ty d)) { s with toks:=tk }:=λtk=>⟨.bl _,H,I.tok tk,rfl,q⟩
 have e:=qNS X.K ty d
 have k:=fK I hx ru
 cases d with
 | dct _ _=>exact Qn hx RP.noDct
 | obj _ _=>cases hb
 | non=>have k:u=.none:=k;subst k;exact kq PySem.W.kitx_none I.kIn True.intro e (λz=>nomatch z) fin
 | bl b=>have k:u=.bool b:=k;subst k;exact kq PySem.W.kitx_bool I.kIn True.intro e (λz=>nomatch z) fin
 | int i=>obtain⟨t,rfl⟩:=k;exact kq PySem.W.kitx_int I.kIn True.intro e (λz=>nomatch z) fin
 | str i=>obtain⟨t,rfl⟩:=k;exact kq PySem.W.kitx_str I.kIn True.intro e (λz=>nomatch z) fin
 | tup ds=>obtain⟨a,its,vs,rfl,⟨o,h1,h2,_⟩,_⟩:=k;exact kq PySem.W.kitx_tuple I.kIn ⟨o,h1,h2⟩ e (λz=>nomatch z) fin
 | lst ds=>obtain⟨a,its,vs,rfl,⟨o,h1,h2,_⟩,_⟩:=k;exact kq PySem.W.kitx_list I.kIn ⟨o,h1,h2⟩ e (λz=>nomatch z) fin
theorem qPX (neg:Bool):OpR X (compareOp (if neg then .IsNot else .Is)) (λx y H Q=>∃(d e:D) (F:Fz) (b:Bool),RP X.K H F d x/\RP X.K H F e y/\lJ neg d e=some (false,.bl b)/\Q (.bl b) H):=by
 intro pins s Z H x y v u Q I rx ry h
 obtain⟨d,e,F,b,hx,hy,hb,q⟩:=h
 have kx:=fK I hx rx
 have ky:=fK I hy ry
 have fin:∀c:Bool,c=b->EP X pins Z Q (.bool c) s:=λc z=>⟨.bl c,H,I,rfl,by rw [z];exact q⟩
 have go:∀(c:Bool),plainIs v u=true->(v == u)=c->(if neg then !c else c)=b->wpAny (model X.prog X.w) X.A (compareOp (if neg then .IsNot else .Is) v u) (EP X pins Z Q) X.xe s:=λc hp hv hc=>by
  subst hv
  cases neg with
  | true=>exact wpAny_isNot_plain hp (fin _ hc)
  | false=>exact wpAny_is_plain hp (fin _ hc)
 have no:∀{x y:Value},x≠y->(x == y)=false:=λh=>beq_eq_false_iff_ne.mpr h
 cases e with
 | non =>
  have ky:u=.none:=ky
  subst ky
  cases d with
  | dct _ _=>exact Qn hx RP.noDct
  | obj kn ds =>
   obtain⟨a,vs,rfl,_⟩:=hx.obj
   cases rx
   exact go false rfl (no (λz=>nomatch z)) (by cases neg<;>simp at hb ⊢<;>exact hb)
  | non=>have kx:v=.none:=kx;subst kx;exact go true rfl (beq_self_eq_true _) (by cases neg<;>simp at hb ⊢<;>exact hb)
  | bl c=>have kx:v=.bool c:=kx;subst kx;exact go false rfl (no (λz=>nomatch z)) (by cases neg<;>simp at hb ⊢<;>exact hb)
  | int c=>obtain⟨t,rfl⟩:=kx;exact go false rfl (no (λz=>nomatch z)) (by cases neg<;>simp at hb ⊢<;>exact hb)
  | str c=>obtain⟨t,rfl⟩:=kx;exact go false rfl (no (λz=>nomatch z)) (by cases neg<;>simp at hb ⊢<;>exact hb)
  | tup ds=>obtain⟨a,its,vs,rfl,_⟩:=kx;exact go false rfl (no (λz=>nomatch z)) (by cases neg<;>simp at hb ⊢<;>exact hb)
  | lst ds=>obtain⟨a,its,vs,rfl,_⟩:=kx;exact go false rfl (no (λz=>nomatch z)) (by cases neg<;>simp at hb ⊢<;>exact hb)
 | bl c2 =>
  have ky:u=.bool c2:=ky
  subst ky
  cases d with
  | dct _ _=>exact Qn hx RP.noDct
  | obj _ _=>cases hb
  | non=>have kx:v=.none:=kx;subst kx;exact go false rfl (no (λz=>nomatch z)) (by cases neg<;>simp at hb ⊢<;>exact hb)
  | bl c =>
   have kx:v=.bool c:=kx
   subst kx
   by_cases hc:c=c2
   ·subst hc
    exact go true rfl (beq_self_eq_true _) (by cases neg<;>simp at hb ⊢<;>exact hb)
   ·exact go false rfl (no (λz=>hc (by injection z))) (by cases neg<;>cases c<;>cases c2<;>simp at hb hc ⊢<;>exact hb)
  | int c=>obtain⟨t,rfl⟩:=kx;exact go false rfl (no (λz=>nomatch z)) (by cases neg<;>simp at hb ⊢<;>exact hb)
  | str c=>obtain⟨t,rfl⟩:=kx;exact go false rfl (no (λz=>nomatch z)) (by cases neg<;>simp at hb ⊢<;>exact hb)
  | tup ds=>obtain⟨a,its,vs,rfl,_⟩:=kx;exact go false rfl (no (λz=>nomatch z)) (by cases neg<;>simp at hb ⊢<;>exact hb)
  | lst ds=>obtain⟨a,its,vs,rfl,_⟩:=kx;exact go false rfl (no (λz=>nomatch z)) (by cases neg<;>simp at hb ⊢<;>exact hb)
 | _=>cases d<;>simp at hb
theorem qPY (hu:X.A.units+20<cLine):OpR X (compareOp .Eq) (λx y H Q=>∃(d e:D) (F:Fz),RP X.K H F d x/\RP X.K H F e y/\(cF 20 d||cF 20 e)=true/\cg d=true/\cg e=true/\Q (.bl (aV d e)) H):=by
 intro pins s Z H x y v u Q I rx ry h
 obtain⟨d,e,F,hx,hy,hs,n1,n2,q⟩:=h
 exact (rS I 20 d e x y v u X.A hx hy rx ry hs n1 n2 hu).2.1 _ _ _ _ ⟨.bl _,H,I,rfl,q⟩
theorem qP5 (I:Inv X pins Z H s) (hx:RP X.K H F (.lst ds) x) (hy:RP X.K H F (.lst []) y) (ru:RelV x u) (rv:RelV y v) (hA:A.units<cLine):SeqAt.RcNeAt A s u v (!ds.isEmpty):=by
 obtain⟨a,its,vs,rfl,p,hd,hv⟩:=fK I hx ru
 obtain⟨b,its2,vs2,rfl,p2,hd2,hv2⟩:=fK I hy rv
 have l1:=RDs.length hd
 have l2:=RDs.length hd2
 have l3:=hv.length
 have l4:=hv2.length
 rw [qG] at l2
 by_cases hsz:its.toArray.size=its2.toArray.size
 ·simp only [aH] at hsz
  have e:ds=[]:=ybk.mp (by omega)
  have e0:its.length=0:=by omega
  subst e
  have r2:=SeqAt.RcNeAt.lists (e:=λ_=>true) p p2 (by simpa using hsz) hA (λj h1 h2=>Qn h1 (by simp [e0]))
  rw [show its.toArray.size=0 by simpa using e0] at r2
  exact r2
 ·have hb:(its.toArray.size != its2.toArray.size)=true:=by simpa using hsz
  simp only [aH] at hsz
  have e:ds.isEmpty=false:=by
   cases ds with
   | nil=>rw [qG] at l1;omega
   | cons _ _=>rfl
  rw [e]
  exact SeqAt.RcNeAt.lists_lengths p p2 hb hA
theorem qPW (hu:X.A.units+20<cLine):OpR X (compareOp .NotEq) (λx y H Q=>∃(d e:D) (F:Fz) (b:Bool),RP X.K H F d x/\RP X.K H F e y/\gJ .ne d e=some (false,.bl b)/\Q (.bl b) H):=by
 intro pins s Z H x y v u Q I rx ry h
 obtain⟨d,e,F,b,hx,hy,hs,q⟩:=h
 rw [gJ] at hs
 split at hs
 ·rename_i hc
  cases hs
  simp only [aI] at hc
  exact (rS I 20 d e x y v u X.A hx hy rx ry hc.1 hc.2.1 hc.2.2 hu).2.2 _ _ _ _ ⟨.bl _,H,I,rfl,q⟩
 ·unfold om at hs
  split at hs
  ·cases hs
   exact qP5 I hx hy rx ry (by omega) _ _ _ _ ⟨.bl _,H,I,rfl,q⟩
  ·cases hs
theorem RDs.at_ {K:Qb}{H:Hp}{F:Fz}:∀{ds:List D}{vs:List V},RDs K H F ds vs->∀i,i<vs.length->RD K H F (ds.getD i .non) (vs.getD i .non)
 | [],_,h,i,hi=>by cases h;exact Qn hi (Nat.not_lt_zero _)
 | _::_,_,⟨v,r,e,h1,h2⟩,i,hi=>by
  subst e
  cases i with
  | zero=>exact h1
  | succ i=>exact RDs.at_ h2 i (Nat.lt_of_succ_lt_succ hi)
theorem tU (r:Vals vs us) (i:Nat) (hi:i<vs.length):L2.RelV (vs.getD i .non) (us.getD i .none):=by
 obtain⟨u,e1,e2⟩:=r.get (i:=i) (x:=vs[i]) (cz hi)
 rw [kE,cz hi,kE,e1]
 exact e2
theorem mx {Z:L2.St}{H:Hp}{F:Fz}(I:Inv X pins Z H s) (hu:X.A.units+20<cLine) {d:D}{ds:List D}{x:V}{v:Value}{vs:List V}{us:List Value}(hx:RP X.K H F d x) (rx:L2.RelV x v) (hr:RDs X.K H F ds vs) (rv:Vals vs us) (hs:cF 19 d=true) (n1:cg d=true) (n2:fh ds=true) :
  ∃e:Value->Bool,(∀y,y∈us.toArray->SeqAt.EqAt X.A.in1 s y v (e y))/\us.toArray.any e=hO ds d/\∀i,i<vs.length->e (us.getD i .none)=aV (ds.getD i .non) d:=by
 have hl:vs.length=us.length:=rv.length
 have hd:vs.length=ds.length:=RDs.length hr
 have he:∀i,i<vs.length->SeqAt.EqAt X.A.in1 s (us.getD i .none) v (aV (ds.getD i .non) d):=λi hi =>
  (rS I 19 _ _ _ _ _ _ X.A.in1 (.inl (RDs.at_ hr i hi)) hx (tU rv i hi) rx (by rw [hs,Bool.or_true]) (lC i n2) n1 (by rw [z9];omega)).1
 have same:∀i j,i<vs.length->j<vs.length->us.getD i .none=us.getD j .none->ds.getD i .non=ds.getD j .non:=λi j hi hj e=>by
  have a:=tU rv i hi
  rw [e] at a
  have b:=a.inj (tU rv j hj)
  have c:=RDs.at_ hr i hi
  rw [b] at c
  exact RP.inj I (lC i n2) (lC j n2) (.inl c) (.inl (RDs.at_ hr j hj))
 have val:∀i,i<vs.length->@decide (∃j,j<vs.length/\us.getD j .none=us.getD i .none/\aV (ds.getD j .non) d=true) (Classical.propDecidable _)=aV (ds.getD i .non) d:=λi hi'=>by
  cases hq:aV (ds.getD i .non) d with
  | true=>exact @decide_eq_true _ (Classical.propDecidable _) ⟨i,hi',rfl,hq⟩
  | false =>
   refine @decide_eq_false _ (Classical.propDecidable _) ?_
   rintro⟨j,hj,ej,qj⟩
   rw [same j i hj hi' ej,hq] at qj
   cases qj
 refine⟨λy=>@decide (∃i,i<vs.length/\us.getD i .none=y/\aV (ds.getD i .non) d=true) (Classical.propDecidable _),λy hy=>?_,?_,val⟩
 ·obtain⟨i,hi,rfl⟩:=List.mem_iff_getElem.mp (by simpa using hy:y∈us)
  have hi':i<vs.length:=by omega
  have g:us.getD i .none=us[i]:=by rw [kE,cz hi];rfl
  have h:=he i hi'
  rw [g] at h
  have e:=val i hi'
  rw [g] at e
  show SeqAt.EqAt X.A.in1 s us[i] v (@decide (∃j,j<vs.length/\us.getD j .none=us[i]/\aV (ds.getD j .non) d=true) (Classical.propDecidable _))
  rw [e]
  exact h
 ·unfold hO
  rw [List.any_toArray,Bool.eq_iff_iff,List.any_eq_true,List.any_eq_true]
  constructor
  ·rintro⟨y,_,hy⟩
   obtain⟨i,hi,_,q⟩:=@of_decide_eq_true _ (Classical.propDecidable _) hy
   rw [kE,cz (show i<ds.length by omega)] at q
   exact⟨_,iF (show i<ds.length by omega),q⟩
  ·rintro⟨d',hd',q⟩
   obtain⟨i,hi,rfl⟩:=List.mem_iff_getElem.mp hd'
   refine⟨us[i],iF (show i<us.length by omega),@decide_eq_true _ (Classical.propDecidable _) ⟨i,by omega,?_,?_⟩⟩
   ·rw [kE,cz (show i<us.length by omega)];rfl
   ·rw [kE,cz hi];exact q
end
end Dw
namespace Dw
open PySem PySem.Spec PyProof.Rows L2
def RG (K:Qb) (H:Hp) (F:Fz) (d:D) (v:V):Prop:=RD K H F d v∨∃a ks,d=.dct false ks/\v=.ref a/\¬F a/\H a=some (.dK (dk ks))
def RGs (K:Qb) (H:Hp) (F:Fz):List D->List V->Prop
 | [],vs=>vs=[]
 | d::ds,vs=>∃v r,vs=v::r/\RG K H F d v/\RGs K H F ds r
theorem RG.grow {K:Qb}{H H1:Hp}{F F1:Fz}(g:Gr H F H1 F1) {d:D}{v:V}(h:RG K H F d v):RG K H1 F1 d v:=
 h.elim (λz=>.inl (RD.mono g.keep z)) λ⟨a,ks,e1,e2,e3,e4⟩=>.inr ⟨a,ks,e1,e2,(λz=>(g.new a z).elim e3 λz=>Qn (e4.symm.trans z) (by simp)),g.same _ _ e4⟩
theorem RGs.of {K:Qb}{H:Hp}{F:Fz}:∀{ds:List D}{vs:List V},RDs K H F ds vs->RGs K H F ds vs
 | [],_,h=>h
 | _::_,_,⟨v,r,e,h1,h2⟩=>⟨v,r,e,.inl h1,RGs.of h2⟩
theorem RGs.length {K:Qb}{H:Hp}{F:Fz}:∀{ds:List D}{vs:List V},RGs K H F ds vs->vs.length=ds.length
 | [],_,h=>by rw [show _=[] from h];rfl
 | _::_,_,⟨v,r,e,h1,h2⟩=>by rw [e,dG,dG,RGs.length h2]
theorem RGs.get {K:Qb}{H:Hp}{F:Fz}:∀{ds:List D}{vs:List V}{i:Nat}{d:D},RGs K H F ds vs->ds[i]?=some d->∃v,vs[i]?=some v/\RG K H F d v
 | [],_,_,_,_,e=>by simp at e
 | x::ds,_,i,d,⟨v,r,e1,h1,h2⟩,e=>by
  subst e1
  cases i with
  | zero=>simp at e;subst e;exact⟨v,rfl,h1⟩
  | succ i=>simp at e;obtain⟨w,q1,q2⟩:=RGs.get h2 e;exact⟨w,by simpa using q1,q2⟩
noncomputable def jr (K:Qb) (n:Nat) (f:List D->Option R):Sp:=λvs H Q _=>vs.length=n/\∃(F:Fz) (ds:List D) (r:R),TB H/\(∀a,H a=none->¬F a)/\RGs K H F ds vs/\f ds=some r /\
 ∀v H' F',Gr H F H' F'->RR K H H' F' r v->Q v H'
noncomputable def del (H:Hp) (a:Addr):Hp:=λb=>if b=a then none else H b
def spH (K:Qb) (n:Nat) (f:List D->Option R):Sp:=λvs H Q _=>vs.length=n/\∃(F:Fz) (a:Addr) (xs ds ys:List D) (ws us:List V) (b:Bool),vs=.ref a::us/\(∀a,H a=none->¬F a)/\H a=some (.lst ws)/\¬F a/\RDs K H F xs ws/\RDs K H F ds us/\f (.lst xs::ds)=some (b,.lst ys) /\
 ∀H' F' zs,Gr (del H a) F H' F'->H' a=some (.lst zs)->¬F' a->RDs K H' F' ys zs->Q .non H'
structure Dfh (call:Nat->List D->Option R) (k:Nat) (X:Cx) (f:Str) (i:Nat):Prop where
 ex:∃(a:Addr) (fd:FuncData) (ps:List Str),X.mg f=some (.ref a)/\PySem.W.keepIn X.K (.ref a)=true/\Binds X.K fd ps []/\FnOk X.prog X.w X.K X.mg X.base fw k a fd ps (spH X.K ps.length (call (i+HX)))/\∀ds r,call (i+HX) ds=some r->ds.length=ps.length
structure Dfn (G:Gx) (call:Nat->List D->Option R) (k:Nat) (X:Cx) (f:Str) (i:Nat):Prop where
 ex:∃(a:Addr) (fd:FuncData) (ps:List Str),X.mg f=some (.ref a)/\PySem.W.keepIn X.K (.ref a)=true/\Binds X.K fd ps []/\FnOk X.prog X.w X.K X.mg X.base fw k a fd ps (jr X.K ps.length (call i))/\(∀ds r,call i ds=some r->ds.length=ps.length)/\∀m d,G.dfl.lookup f=some (m,d)->∃t,Binds X.K fd ps [.int d t]
noncomputable def kV:D->V
 | .int i=>.int i
 | .bl b=>.bl b
 | .str x=>.str x
 | _=>.non
noncomputable def bQ:List Str:=["len","abs","min","max","sum","all","tuple","list","int","bool","str","isinstance","range","zip","reversed","sorted","enumerate","any"].map Qa
structure Dfl (call:Nat->List D->Option R) (k:Nat) (P:Program) (w:World) (K:Qb) (mg:Str->Option Value) (base:Heap) (i:Nat) (L:LamD):Prop where
 ex:∃ps:List Str,L.sc.kind=.function/\L.sc.isCoroutine=false/\L.sc.isGenerator=false/\(∀y∈L.sc.names,y.2≠.cell)/\(∀x∈ps,L.sc.names.lookup x=some .local)/\(∀y∈aB L.sc,L.sc.names.lookup y=some .free)/\ps.Nodup /\
  (∀clos pm c ctv (us:List Value),us.length=ps.length->bindArgs (PySem.W.kla_fn "<lambda>" L.q L.la L.e L.sc clos pm (.ref c) ctv) ⟨us,[]⟩=pure (ps.zip us))/\(∀as r,call i as=some r->as.length=ps.length+(aB L.sc).length) /\
  ∀(f c:Addr) (clos:List (Str×Addr)) (A:Around) (outer:List Env) (s:Shared) (H0:Hp),Room k A->∃t:TE,PE (kM P w K mg base (ps++aB L.sc) L.q L.sc f (.ref c) clos A outer s H0) L.e t /\
    ∀(H:Hp) (F:Fz) (es ds:List D) (ws vs:List V) (r:R) (Q:VK),TB H->(∀a,H a=none->¬F a)->call i (es++ds)=some r->RDs K H F es ws->RDs K H F ds vs->ws.length=ps.length->vs.length=(aB L.sc).length ->
      (∀v' H' F',Gr H F H' F'->RR K H H' F' r v'->Q v' H')->t (ws.map some++vs.map some) H Q
structure CnD (P:Program) (w:World) (K:Qb) (mg:Str->Option Value) (G:Gx):Prop where
 c:∀x i,G.cons.lookup x=some i->∃t,mg x=some (.int i t)
structure XG (call:Nat->List D->Option R) (G:Gx) (k:Nat) (X:Cx) (sc:Scope) (N:List Str):Prop where
 hN:X.N=N
 nd:N.Nodup
 vis:∀x,jD sc x=true->jh X.env.scope x
 loc:∀x,(sc.names.lookup x == some .local||sc.names.lookup x == some .cell)=true->lP X.env.scope x/\(X.fn x=true∨X.env.scope.names.lookup x=some .local)
 gl:∀x,bt sc x=true->Gl X x
 cap:∀x,jw sc x=true->X.env.kindOf x=some .cell∨X.env.kindOf x=some .free
 calm:X.calm=true
 xe:X.xe=λ_ _=>False
 room:Room k X.A
 defs:∀f i,G.defs.lookup f=some i->Dfn G call k X f i
 blt:∀x,G.defs.lookup x=none->x∈bQ->X.mg x=none
 cons:CnD X.prog X.w X.K X.mg G
 lam:∀i L,lamX.lookup i=some L->Dfl call k X.prog X.w X.K X.mg X.base i L
section
variable {call:Nat->List D->Option R}{G:Gx}{k:Nat}{X:Cx}{sc:Scope}{N:List Str}
variable (call X) in
def SndE (e:Expr) (c:C):Prop:=∃t:TE,PE X e t/\∀(Ge:Gp) (H:Hp) (F:Fz) (Z:En) (τ:L2.St) (r:R) (Q:VK),aa call Z c=some r->SR X.K Ge H F Z τ->(∀v H' F',Gr H F H' F'->RR X.K H H' F' r v->Q v H')->t τ H Q
variable (call X) in
def dU (e:Expr) (c:C):Prop:=∃t:TE,PE X e t/\∀(Ge:Gp) (H:Hp) (F:Fz) (Z:En) (τ:L2.St) (d:D) (Q:VK),pk Z c (aa call Z c)=some d->SR X.K Ge H F Z τ->(∀v H' F',Gr H F H' F'->RP X.K H' F' d v->Q v H')->t τ H Q
variable (call X) in
def dj (e:Expr) (c:C):Prop:=∃t:TT,PT X e t/\∀(Ge:Gp) (H:Hp) (F:Fz) (Z:En) (τ:L2.St) (x b:Bool) (Q:Bool->Hp->Prop),aa call Z c=some (x,.bl b)->SR X.K Ge H F Z τ->(∀H' F',Gr H F H' F'->Q b H')->t τ H Q
variable (call X) in
def ju (es:List Expr) (cs:List C):Prop:=∃t:TA,PA X es t/\∀(Ge:Gp) (H:Hp) (F:Fz) (Z:En) (τ:L2.St) (ds:List D) (Q:List V->Hp->Prop),cY call Z cs=some ds->SR X.K Ge H F Z τ->(∀vs H' F',Gr H F H' F'->RDs X.K H' F' ds vs->Q vs H')->t τ H Q
def RPs (K:Qb) (H:Hp) (F:Fz):List D->List V->Prop
 | [],vs=>vs=[]
 | d::ds,vs=>∃v r,vs=v::r/\RP K H F d v/\RPs K H F ds r
variable (call X) in
def ja (es:List Expr) (cs:List C):Prop:=∃t:TA,PA X es t/\∀(Ge:Gp) (H:Hp) (F:Fz) (Z:En) (τ:L2.St) (ds:List D) (Q:List V->Hp->Prop),bY call Z cs=some ds->SR X.K Ge H F Z τ->(∀vs H' F',Gr H F H' F'->RPs X.K H' F' ds vs->Q vs H')->t τ H Q
variable (call X) in
def oD (e:Expr) (c:C):Prop:=∃t:TE,PE X e t/\∀(Ge:Gp) (H:Hp) (F:Fz) (Z:En) (τ:L2.St) (d:D) (Q:VK),ag Z c (aa call Z c)=some d->SR X.K Ge H F Z τ->(∀v H' F',Gr H F H' F'->RG X.K H' F' d v->Q v H')->t τ H Q
variable (call X) in
def mj (es:List Expr) (cs:List C):Prop:=∃t:TA,PA X es t/\∀(Ge:Gp) (H:Hp) (F:Fz) (Z:En) (τ:L2.St) (ds:List D) (Q:List V->Hp->Prop),eU call Z cs=some ds->SR X.K Ge H F Z τ->(∀vs H' F',Gr H F H' F'->RGs X.K H' F' ds vs->Q vs H')->t τ H Q
variable (call X) in
def me (e:Option Expr) (c:Option C):Prop:=∃t:TO,PO X e t/\∀(Ge:Gp) (H:Hp) (F:Fz) (Z:En) (τ:L2.St) (o:Option Int) (Q:Option Int->Hp->Prop),gC call Z c=some o->SR X.K Ge H F Z τ->(∀H' F',Gr H F H' F'->Q o H')->t τ H Q
theorem SndE.look (h:SndE call X e c) (hc:∀i,c≠.v i):dU call X e c:=by
 obtain⟨t,p,q⟩:=h
 refine⟨t,p,λGe H F Z τ d Q hd hs k=>?_⟩
 have hd':(aa call Z c).map (·.2)=some d:=by
  cases c with
  | v i=>exact Qn rfl (hc i)
  | _=>exact hd
 cases hr:aa call Z c with
 | none=>rw [hr] at hd';cases hd'
 | some r =>
  rw [hr] at hd'
  cases hd'
  exact q Ge H F Z τ r Q hr hs λv H' F' g z=>k v H' F' g z.look
theorem SndE.lend (h:SndE call X e c) (hc:∀i,c≠.v i):oD call X e c:=by
 obtain⟨t,p,q⟩:=h
 refine⟨t,p,λGe H F Z τ d Q hd hs k=>?_⟩
 have hd':(aa call Z c).map (·.2)=some d:=by
  cases c with
  | v i=>exact Qn rfl (hc i)
  | _=>exact hd
 cases hr:aa call Z c with
 | none=>rw [hr] at hd';cases hd'
 | some r =>
  rw [hr] at hd'
  cases hd'
  refine q Ge H F Z τ r Q hr hs λv H' F' g z=>?_
  obtain⟨F2,g2,rd⟩:=z.fz g
  exact k v H' F2 g2 (.inl rd)
theorem iv (h:bF N x=some i):N[i]?=some x:=by
 unfold bF at h
 obtain⟨h1,h2,_⟩:=List.findIdx?_eq_some_iff_getElem.mp h
 rw [cz h1]
 simpa using h2
theorem mJ (g:XG call G k X sc N) (h:cV sc N x=some i):X.N[i]?=some x/\jh X.env.scope x/\(x == ("__debug__":Str))=false/\(x == ("__classdict__":Str))=false:=by
 unfold cV at h
 split at h
 ·rename_i hv
  rw [aI] at hv
  have hp:=hv.2
  unfold fN at hp
  simp only [aI,bne_iff_ne,ne_eq] at hp
  refine⟨by rw [g.hN];exact iv h,g.vis x hv.1,?_,?_⟩
  ·exact beq_eq_false_iff_ne.mpr hp.1.1
  ·exact beq_eq_false_iff_ne.mpr hp.1.2
 ·cases h
theorem zx (g:XG call G k X sc N) (h:cV sc N x=some i):SndE call X (.Name x pos) (.v i)/\dU call X (.Name x pos) (.v i)/\oD call X (.Name x pos) (.v i):=by
 obtain⟨h1,h2,h3,h4⟩:=mJ g h
 refine⟨?_,?_,?_⟩
 ·refine⟨_,jb h1 h2 h3 h4,λGe H F Z τ r Q hr hs k=>?_⟩
  change kP (ao Z i)=some r at hr
  cases hv:ao Z i with
  | none=>rw [hv] at hr;cases hr
  | some z =>
   obtain⟨b,d⟩:=z
   rw [hv] at hr
   cases b with
   | true=>cases hr
   | false =>
    cases hr
    obtain⟨v,e,rd⟩:=hs.val i d hv
    exact⟨v,e,k v H F (Gr.refl hs.dom) rd⟩
 ·refine⟨_,jb h1 h2 h3 h4,λGe H F Z τ d Q hr hs k=>?_⟩
  change (ao Z i).bind aL=some d at hr
  cases hv:ao Z i with
  | none=>rw [hv] at hr;cases hr
  | some z =>
   obtain⟨b,d'⟩:=z
   rw [hv] at hr
   cases b with
   | false =>
    cases hr
    obtain⟨v,e,rd⟩:=hs.val i _ hv
    exact⟨v,e,k v H F (Gr.refl hs.dom) (.inl rd)⟩
   | true =>
    cases d' with
    | lst ds' =>
     cases hr
     obtain⟨a,ds,vs,e1,e2,e3,e4,e5,e6⟩:=hs.own i _ hv rfl
     exact⟨.ref a,e2,k _ H F (Gr.refl hs.dom) (.inr ⟨a,ds,vs,e1,rfl,e5,e6⟩)⟩
    | _=>cases hr
 ·refine⟨_,jb h1 h2 h3 h4,λGe H F Z τ d Q hr hs k=>?_⟩
  change (ao Z i).bind qr=some d at hr
  cases hv:ao Z i with
  | none=>rw [hv] at hr;cases hr
  | some z =>
   obtain⟨b,d'⟩:=z
   rw [hv] at hr
   cases b with
   | false =>
    cases hr
    obtain⟨v,e,rd⟩:=hs.val i _ hv
    exact⟨v,e,k v H F (Gr.refl hs.dom) (.inl rd)⟩
   | true =>
    cases d' with
    | dct m ks =>
     cases hr
     obtain⟨a,e1,e2,e3,e4⟩:=hs.dct i m ks hv
     exact⟨.ref a,e1,k _ H F (Gr.refl hs.dom) (.inr ⟨a,ks,rfl,rfl,e2,e3⟩)⟩
    | _=>cases hr
theorem Ae (h:qg c=some d):SndE call X (.Constant c j pos) (.k d):=by
 cases c with
 | int i=>cases h;exact⟨_,qPO,λGe H F Z τ r Q hr hs k=>by cases hr;exact k _ H F (Gr.refl hs.dom) rfl⟩
 | bool i=>cases h;exact⟨_,qR3,λGe H F Z τ r Q hr hs k=>by cases hr;exact k _ H F (Gr.refl hs.dom) rfl⟩
 | str x=>cases h;exact⟨_,qPI,λGe H F Z τ r Q hr hs k=>by cases hr;exact k _ H F (Gr.refl hs.dom) rfl⟩
 | none=>cases h;exact⟨_,qPL,λGe H F Z τ r Q hr hs k=>by cases hr;exact k _ H F (Gr.refl hs.dom) rfl⟩
 | _=>cases h
theorem qPh (g:XG call G k X sc N) (h:ka G sc x=some c):SndE call X (.Name x pos) c/\∀i,c≠.v i:=by
 unfold ka at h
 split at h
 ·rename_i hb
  rw [aI] at hb
  cases hc:G.cons.lookup x with
  | none=>rw [hc] at h;cases h
  | some i =>
   rw [hc] at h
   cases h
   obtain⟨t,ht⟩:=g.cons.c x i hc
   have hd:(x == ("__debug__":Str))=false:=by
    have:=hb.2
    unfold fN at this
    simp only [aI,bne_iff_ne,ne_eq] at this
    simpa using this.1.1
   exact⟨⟨_,qNr (v:=.int i) (g.gl x hb.1) ht ⟨t,rfl⟩ hd,λGe H F Z τ r Q hr hs k=>by cases hr;exact k _ H F (Gr.refl hs.dom) rfl⟩,λi z=>nomatch z⟩
 ·cases h
def eZ (X:Cx) (f:Value->Value->Sem Value) (b:D->D->Option R):Prop:=
 ∃r:R2,OpR X f r/\∀(H:Hp) (F:Fz) (d e:D) (x y:V) (z:R) (Q:VK),b d e=some z->(∀a,H a=none->¬F a)->RP X.K H F d x->RP X.K H F e y->(∀v H' F',Gr H F H' F'->RR X.K H H' F' z v->Q v H')->r x y H Q
theorem oW {α β γ:Type}{a:Option α}{b:Option β}{f:α->β->Option γ}{z:γ}(h:(a.bind λx=>b.bind λy=>f x y)=some z):∃x y,a=some x/\b=some y/\f x y=some z:=by
 cases a with
 | none=>cases h
 | some x =>
  cases b with
  | none=>cases h
  | some y=>exact⟨x,y,rfl,rfl,h⟩
theorem af {α γ:Type}{a:Option α}{f:α->Option γ}{z:γ}(h:a.bind f=some z):∃x,a=some x/\f x=some z:=by
 cases a with
 | none=>cases h
 | some x=>exact⟨x,rfl,h⟩
theorem kQ {a b:Expr}{ca cb:C}{ta tb:TE}{Ge:Gp}{H:Hp}{F:Fz}{Z:En}{τ:L2.St}{x y:D}{R':V->V->Hp->Prop}
  (qa:∀(Ge:Gp) (H:Hp) (F:Fz) (Z:En) (τ:L2.St) (d:D) (Q:VK),pk Z ca (aa call Z ca)=some d->SR X.K Ge H F Z τ->(∀v H' F',Gr H F H' F'->RP X.K H' F' d v->Q v H')->ta τ H Q)
  (qb:∀(Ge:Gp) (H:Hp) (F:Fz) (Z:En) (τ:L2.St) (d:D) (Q:VK),pk Z cb (aa call Z cb)=some d->SR X.K Ge H F Z τ->(∀v H' F',Gr H F H' F'->RP X.K H' F' d v->Q v H')->tb τ H Q)
  (ex:pk Z ca (aa call Z ca)=some x) (ey:pk Z cb (aa call Z cb)=some y) (hs:SR X.K Ge H F Z τ)
  (h:∀v w H2 F2,Gr H F H2 F2->RP X.K H2 F2 x v->RP X.K H2 F2 y w->R' v w H2):ta τ H λv H1=>tb τ H1 λw H2=>R' v w H2:=by
 refine qa Ge H F Z τ x _ ex hs λv H1 F1 g1 r1=>?_
 refine qb Ge H1 F1 Z τ y _ ey (hs.grow g1) λw H2 F2 g2 r2=>?_
 exact h v w H2 F2 (g1.trans g2) (r1.grow g2) r2
theorem qM7 {a b:Expr}{ca cb:C}{op:Operator}{o:BOp}{pos:Pos}(ho:eZ X (binaryOp op) (fD o)) (ha:dU call X a ca) (hb:dU call X b cb):SndE call X (.BinOp a op b pos) (.bin o ca cb):=by
 obtain⟨r,hr,hq⟩:=ho
 obtain⟨ta,pa,qa⟩:=ha
 obtain⟨tb,pb,qb⟩:=hb
 refine⟨_,qR1 hr pa pb,λGe H F Z τ z Q hz hs k=>?_⟩
 obtain⟨x,y,ex,ey,ez⟩:=oW (by simpa only [yj] using hz)
 refine kQ (a:=a) (b:=b) qa qb ex ey hs λv w H2 F2 g rx ry=>?_
 exact hq H2 F2 x y v w z Q ez g.dom rx ry λu H' F' g' rr=>k u H' F' (g.trans g') (rr.back g.same)
theorem qM6 {a b:Expr}{ca cb:C}{op:CmpOp}{o:COp}{pos:Pos}(ho:eZ X (compareOp op) (gJ o)) (hm:behindInMarks op b=false) (hb2:∀x y z,gJ o x y=some z->∃c,z=(false,.bl c)) (ha:dU call X a ca) (hb:dU call X b cb) :
  SndE call X (.Compare a [op] [b] pos) (.cmp o ca cb)/\dj call X (.Compare a [op] [b] pos) (.cmp o ca cb):=by
 obtain⟨r,hr,hq⟩:=ho
 obtain⟨ta,pa,qa⟩:=ha
 obtain⟨tb,pb,qb⟩:=hb
 constructor
 ·refine⟨_,yI hr pa pb hm,λGe H F Z τ z Q hz hs k=>?_⟩
  obtain⟨x,y,ex,ey,ez⟩:=oW (by simpa only [sJ] using hz)
  refine kQ (a:=a) (b:=b) qa qb ex ey hs λv w H2 F2 g rx ry=>?_
  exact hq H2 F2 x y v w z Q ez g.dom rx ry λu H' F' g' rr=>k u H' F' (g.trans g') (rr.back g.same)
 ·refine⟨_,yM hr pa pb hm,λGe H F Z τ xx bb Q hz hs k=>?_⟩
  obtain⟨x,y,ex,ey,ez⟩:=oW (by simpa only [sJ] using hz)
  refine kQ (a:=a) (b:=b) qa qb ex ey hs λv w H2 F2 g rx ry=>?_
  obtain⟨c,ec⟩:=hb2 _ _ _ ez
  cases ec
  exact hq H2 F2 x y v w _ _ ez g.dom rx ry λu H' F' g' rr=>⟨bb,rr,k H' F' (g.trans g')⟩
theorem iu {K:Qb}{H:Hp}{F:Fz}{ds:List D}{vs:List V}{p:Addr}(dom:∀a,H a=none->¬F a) (hp:H p=none) (h:RDs K H F ds vs) :
  Gr H F (av H p (.lst vs)) F/\RR K H (av H p (.lst vs)) F (true,.lst ds) (.ref p):=by
 have g:Gr H F (av H p (.lst vs)) F:=Gr.laid dom hp
 exact⟨g,p,ds,vs,rfl,rfl,hp,dom p hp,dJ,RDs.mono g.keep h⟩
theorem ly {K:Qb}{H:Hp}{F:Fz}{ds:List D}{vs:List V}{p:Addr}(dom:∀a,H a=none->¬F a) (hp:H p=none) (h:RDs K H F ds vs) :
  Gr H F (av H p (.tup vs)) F/\RR K H (av H p (.tup vs)) F (false,.tup ds) (.ref p):=by
 have g:Gr H F (av H p (.tup vs)) F:=Gr.laid dom hp
 exact⟨g,p,vs,rfl,SqT.of dJ,RDs.mono g.keep h⟩
theorem mM {Cc:Int->Int->Prop}{gg:Int->Int->V}{kk:Int->Int->D}(h:OpR X f (rI Cc gg))
  (hb:∀d e z,b d e=some z->∃i j,d=.int i/\e=.int j/\Cc i j/\z=(false,kk i j)) (hk:∀(H:Hp) (F:Fz) i j,RD X.K H F (kk i j) (gg i j)):eZ X f b:=by
 refine⟨_,h,λH F d e x y z Q hz dom hx hy k=>?_⟩
 obtain⟨i,j,rfl,rfl,hc,rfl⟩:=hb d e z hz
 exact⟨i,j,hx.int,hy.int,hc,k _ H F (Gr.refl dom) (hk H F i j)⟩
theorem mS {gg:Int->Int->V}{kk:Int->Int->D}(h:OpR X f (iI gg))
  (hb:∀d e z,b d e=some z->∃i j,d=.int i/\e=.int j/\z=(false,kk i j)) (hk:∀(H:Hp) (F:Fz) i j,RD X.K H F (kk i j) (gg i j)):eZ X f b:=by
 refine⟨_,h,λH F d e x y z Q hz dom hx hy k=>?_⟩
 obtain⟨i,j,rfl,rfl,rfl⟩:=hb d e z hz
 exact⟨i,j,hx.int,hy.int,k _ H F (Gr.refl dom) (hk H F i j)⟩
theorem cQ [Decidable c] (h:(if c then some a else none)=some b):c/\a=b:=by
 by_cases hc:c
 ·rw [Ql hc] at h;exact⟨hc,fX h⟩
 ·rw [Qm hc] at h;cases h
theorem qNt:eZ X (binaryOp .Sub) (fD .sub):=mS (kk:=λi j=>.int (i - j)) qPV (λd e z h=>by
 cases d<;>first|(cases h;done)|(cases e<;>first|(cases h;exact⟨_,_,rfl,rfl,rfl⟩)|cases h)) λ_ _ _ _=>rfl
theorem qKi:eZ X (binaryOp .FloorDiv) (fD .fdiv):=mM (kk:=λi j=>.int (i.fdiv j)) qKk (λd e z h=>by
 cases d<;>first|(cases h;done)|(cases e<;>first|(obtain⟨h1,rfl⟩:=cQ h;exact⟨_,_,rfl,rfl,h1,rfl⟩)|cases h)) λ_ _ _ _=>rfl
theorem qNw:eZ X (binaryOp .Mod) (fD .mod):=mM (kk:=λi j=>.int (i.fmod j)) qNB (λd e z h=>by
 cases d<;>first|(cases h;done)|(cases e<;>first|(obtain⟨h1,rfl⟩:=cQ h;exact⟨_,_,rfl,rfl,h1,rfl⟩)|cases h)) λ_ _ _ _=>rfl
theorem qNu:eZ X (binaryOp .Pow) (fD .pow):=mM (kk:=λi j=>.int (i^j.toNat)) qNA (λd e z h=>by
 cases d<;>first|(cases h;done)|(cases e<;>first|(obtain⟨h1,rfl⟩:=cQ h;exact⟨_,_,rfl,rfl,h1,rfl⟩)|cases h)) λ_ _ _ _=>rfl
theorem qOm (h1:0<=x) (h2:0<=y):Builtin.bitAnd x y=((x.toNat &&& y.toNat:Nat):Int):=by
 unfold Builtin.bitAnd;rw [Qk h1,Qk h2]
theorem qQX (h1:0<=x) (h2:0<=y):Builtin.bitOr x y=((x.toNat ||| y.toNat:Nat):Int):=by
 have n:∀z:Int,Builtin.bitNot z=-z - 1:=λz=>by simp only [Builtin.bitNot]<;>omega
 unfold Builtin.bitOr Builtin.bitAnd
 rw [Qj (show ¬0<=Builtin.bitNot x by rw [n];omega),Qj (show ¬0<=Builtin.bitNot y by rw [n];omega)]
 simp only
 rw [n,n,n,n,n,n]
 rw [show -(-x - 1) - 1=x by omega,show -(-y - 1) - 1=y by omega]
 omega
theorem qKl:OpR X (binaryOp .BitAnd) (rI (λi j=>0<=i/\0<=j) λi j=>.int ((i.toNat &&& j.toNat:Nat):Int)):=lI λi j _ _ _ _ _ hc q=>and_int (by rw [qOm hc.1 hc.2];exact q)
theorem qND:OpR X (binaryOp .BitOr) (rI (λi j=>0<=i/\0<=j) λi j=>.int ((i.toNat ||| j.toNat:Nat):Int)):=lI λi j _ _ _ _ _ hc q=>or_int (by rw [qQX hc.1 hc.2];exact q)
theorem qKj:eZ X (binaryOp .BitAnd) (fD .band):=mM (kk:=λi j=>.int ((i.toNat &&& j.toNat:Nat):Int)) qKl (λd e z h=>by
 cases d<;>first|(cases h;done)|(cases e<;>first|(obtain⟨h1,rfl⟩:=cQ h;exact⟨_,_,rfl,rfl,h1,rfl⟩)|cases h)) λ_ _ _ _=>rfl
theorem qNx:eZ X (binaryOp .BitOr) (fD .bor):=mM (kk:=λi j=>.int ((i.toNat ||| j.toNat:Nat):Int)) qND (λd e z h=>by
 cases d<;>first|(cases h;done)|(cases e<;>first|(obtain⟨h1,rfl⟩:=cQ h;exact⟨_,_,rfl,rfl,h1,rfl⟩)|cases h)) λ_ _ _ _=>rfl
theorem qNv:eZ X (binaryOp .Mult) (fD .mul):=by
 refine⟨_,op_mulD.or qNz,λH F d e x y z Q hz dom hx hy k=>?_⟩
 cases d with
 | int i =>
  cases e with
  | int j=>obtain⟨h1,rfl⟩:=cQ hz;exact .inl ⟨i,j,hx.int,hy.int,h1,k _ H F (Gr.refl dom) rfl⟩
  | _=>cases hz
 | lst xs =>
  cases e with
  | int j =>
   obtain⟨⟨h1,h2,h3⟩,rfl⟩:=cQ hz
   obtain⟨a,vs,rfl,hl,hr⟩:=hx.lst
   refine .inr ⟨a,j,vs,rfl,hy.int,hl,by omega,by omega,by rw [RDs.length hr];exact h1,λp hp=>?_⟩
   obtain⟨g,rr⟩:=iu dom hp (RDs.rep hr j.toNat)
   exact k _ _ _ g rr
  | _=>cases hz
 | _=>cases e<;>cases hz
theorem qNy:eZ X (binaryOp .Add) (fD .add):=by
 refine⟨_,(op_add.or (op_catD.or qNC)).or (op_catN.or qGJ),λH F d e x y z Q hz dom hx hy k=>?_⟩
 cases d with
 | int i =>
  cases e with
  | int j=>cases hz;exact .inl (.inl ⟨i,j,hx.int,hy.int,k _ H F (Gr.refl dom) rfl⟩)
  | _=>cases hz
 | str xs =>
  cases e with
  | str ys =>
   obtain⟨h1,rfl⟩:=cQ hz
   exact .inr (.inr ⟨xs,ys,hx.str,hy.str,h1,k _ H F (Gr.refl dom) rfl⟩)
  | _=>cases hz
 | lst xs =>
  cases e with
  | lst ys =>
   obtain⟨h1,rfl⟩:=cQ hz
   obtain⟨a,vs,rfl,hl,hr⟩:=hx.lst
   obtain⟨a2,vs2,rfl,hl2,hr2⟩:=hy.lst
   refine .inl (.inr (.inl ⟨a,a2,vs,vs2,rfl,rfl,hl,hl2,by rw [RDs.length hr,RDs.length hr2];exact h1,λp hp=>?_⟩))
   obtain⟨g,rr⟩:=iu dom hp (RDs.append hr hr2)
   exact k _ _ _ g rr
  | _=>cases hz
 | tup xs =>
  cases e with
  | tup ys =>
   cases xs with
   | nil =>
    cases hz
    obtain⟨a,vs,rfl,hl,hr⟩:=hx.tup
    obtain⟨a2,vs2,rfl,hl2,hr2⟩:=hy.tup
    have hr:vs=[]:=hr
    subst hr
    exact .inr (.inl ⟨a,a2,vs2,rfl,rfl,hl,hl2,k _ H F (Gr.refl dom) ⟨a2,vs2,rfl,hl2,hr2⟩⟩)
   | cons x0 xs =>
    obtain⟨h1,rfl⟩:=cQ hz
    obtain⟨a,vs,rfl,hl,hr⟩:=hx.tup
    obtain⟨a2,vs2,rfl,hl2,hr2⟩:=hy.tup
    have hv:vs≠[]:=λz=>by have:=RDs.length hr;rw [z] at this;cases this
    refine .inl (.inr (.inr ⟨a,a2,vs,vs2,rfl,rfl,hl,hl2,hv,by rw [RDs.length hr,RDs.length hr2];exact h1,λz=>?_,λ_ p hp=>?_⟩))
    ·subst z
     have e0:ys=[]:=by have:=RDs.length hr2;exact ybk.mp this.symm
     subst e0
     rw [cL] at k
     exact k _ H F (Gr.refl dom) ⟨a,vs,rfl,hl,hr⟩
    ·obtain⟨g,rr⟩:=ly dom hp (RDs.append hr hr2)
     exact k _ _ _ g rr
  | _=>cases xs<;>cases hz
 | _=>cases e<;>cases hz
theorem qPU (h:wm op=some o):eZ X (binaryOp op) (fD o):=by
 cases op<;>first|(cases h;first|exact qNy|exact qNt|exact qNv|exact qKi|exact qNw|exact qNu|exact qKj|exact qNx)|cases h
theorem wK (h:gJ .ne d e=some z):∃c,z=(false,.bl c):=by
 rw [gJ] at h
 split at h
 ·cases h;exact⟨_,rfl⟩
 ·cases e1:om d e with
  | none=>rw [e1] at h;cases h
  | some c=>rw [e1] at h;cases h;exact⟨_,rfl⟩
theorem qOd {o:COp}(hu:X.A.units+20<cLine) (h:wq op=some o):eZ X (compareOp op) (gJ o):=by
 cases op with
 | Eq =>
  cases h
  refine⟨_,qPY hu,λH F d e x y z Q hz dom hx hy k=>?_⟩
  obtain⟨h1,rfl⟩:=cQ (show (if ((cF 20 d||cF 20 e)&&(cg d&&cg e))=true then some (false,D.bl (aV d e)) else none)=some z from hz)
  simp only [aI] at h1
  exact⟨d,e,F,hx,hy,h1.1,h1.2.1,h1.2.2,k _ H F (Gr.refl dom) rfl⟩
 | NotEq =>
  cases h
  refine⟨_,qPW hu,λH F d e x y z Q hz dom hx hy k=>?_⟩
  obtain⟨c,rfl⟩:=wK hz
  exact⟨d,e,F,c,hx,hy,hz,k _ H F (Gr.refl dom) rfl⟩
 | Lt=>cases h;exact mS (kk:=λi j=>.bl (decide (i<j))) qR5 (λd e z h=>by cases d<;>first|(cases h;done)|(cases e<;>first|(cases h;exact⟨_,_,rfl,rfl,rfl⟩)|cases h)) λ_ _ _ _=>rfl
 | LtE=>cases h;exact mS (kk:=λi j=>.bl (decide (i<=j))) qR6 (λd e z h=>by cases d<;>first|(cases h;done)|(cases e<;>first|(cases h;exact⟨_,_,rfl,rfl,rfl⟩)|cases h)) λ_ _ _ _=>rfl
 | Gt=>cases h;exact mS (kk:=λi j=>.bl (decide (j<i))) qR7 (λd e z h=>by cases d<;>first|(cases h;done)|(cases e<;>first|(cases h;exact⟨_,_,rfl,rfl,rfl⟩)|cases h)) λ_ _ _ _=>rfl
 | GtE=>cases h;exact mS (kk:=λi j=>.bl (decide (j<=i))) qR8 (λd e z h=>by cases d<;>first|(cases h;done)|(cases e<;>first|(cases h;exact⟨_,_,rfl,rfl,rfl⟩)|cases h)) λ_ _ _ _=>rfl
 | _=>cases h
theorem wa (h:uN n d e=some z):∃c,z=(false,.bl c):=by
 cases e with
 | tup ys=>exact⟨_,(cQ (show (if (cF 19 d&&(cg d&&fh ys))=true then some (false,D.bl (if n then !(hO ys d) else hO ys d)) else none)=some z by cases d<;>exact h)).2.symm⟩
 | lst ys=>exact⟨_,(cQ (show (if (cF 19 d&&(cg d&&fh ys))=true then some (false,D.bl (if n then !(hO ys d) else hO ys d)) else none)=some z by cases d<;>exact h)).2.symm⟩
 | _=>cases d<;>cases h
theorem qQK (h:gJ o d e=some z):∃c,z=(false,.bl c):=by
 cases o with
 | eq=>obtain⟨_,rfl⟩:=cQ (show (if ((cF 20 d||cF 20 e)&&(cg d&&cg e))=true then some (false,D.bl (aV d e)) else none)=some z from h);exact⟨_,rfl⟩
 | ne=>exact wK h
 | isin=>exact wa h
 | notin=>exact wa h
 | _=>cases d<;>first|(cases h;done)|(cases e<;>first|(cases h;exact⟨_,rfl⟩)|cases h)
end
end Dw
namespace Dw
open PySem PySem.Spec PyProof.Rows L2
section
variable {call:Nat->List D->Option R}{G:Gx}{k:Nat}{X:Cx}{sc:Scope}{N:List Str}
theorem qQv (neg:Bool):eZ X (compareOp (if neg then .IsNot else .Is)) (lJ neg):=by
 refine⟨_,qPX neg,λH F d e x y z Q hz dom hx hy k=>?_⟩
 obtain⟨b,rfl⟩:∃b,z=(false,.bl b):=by
  cases d<;>first|(cases hz;done)|(cases e<;>first|(cases hz;exact⟨_,rfl⟩)|cases hz)
 exact⟨d,e,F,b,hx,hy,hz,k _ H F (Gr.refl dom) rfl⟩
theorem qSj (h:lJ neg d e=some z):∃c,z=(false,.bl c):=by
 cases d<;>first|(cases h;done)|(cases e<;>first|(cases h;exact⟨_,rfl⟩)|cases h)
theorem qPf (neg:Bool) (hop:op=if neg then .IsNot else .Is) (hc:qg c=some d) (ha:dU call X a ca) :
  SndE call X (.Compare a [op] [.Constant c j pos'] pos) (.isC neg ca d)/\dj call X (.Compare a [op] [.Constant c j pos'] pos) (.isC neg ca d):=by
 subst hop
 obtain⟨r,hr,hq⟩:=qQv (X:=X) neg
 obtain⟨ta,pa,qa⟩:=ha
 obtain⟨tb,pb,qb⟩:=(Ae (call:=call) (X:=X) (j:=j) (pos:=pos') hc).look (λi z=>nomatch z)
 have hm:behindInMarks (if neg then CmpOp.IsNot else CmpOp.Is) (.Constant c j pos')=false:=by cases neg<;>exact qP3 _
 constructor
 ·refine⟨_,yI hr pa pb hm,λGe H F Z τ z Q hz hs k=>?_⟩
  obtain⟨x,ex,ez⟩:=af (by simpa only [sN] using hz)
  refine kQ (call:=call) (cb:=.k d) (a:=a) (b:=a) (y:=d) qa qb ex rfl hs λv w H2 F2 g rx ry=>?_
  exact hq H2 F2 x d v w z Q ez g.dom rx ry λu H' F' g' rr=>k u H' F' (g.trans g') (rr.back g.same)
 ·refine⟨_,yM hr pa pb hm,λGe H F Z τ xx bb Q hz hs k=>?_⟩
  obtain⟨x,ex,ez⟩:=af (by simpa only [sN] using hz)
  refine kQ (call:=call) (cb:=.k d) (a:=a) (b:=a) (y:=d) qa qb ex rfl hs λv w H2 F2 g rx ry=>?_
  obtain⟨c,ec⟩:=qSj ez
  cases ec
  exact hq H2 F2 x d v w _ _ ez g.dom rx ry λu H' F' g' rr=>⟨bb,rr,k H' F' (g.trans g')⟩
theorem qM0 (ha:dU call X a ca):SndE call X (.UnaryOp .USub a pos) (.neg ca):=by
 obtain⟨ta,pa,qa⟩:=ha
 refine⟨_,qRZ qOM pa,λGe H F Z τ z Q hz hs k=>?_⟩
 obtain⟨x,ex,ez⟩:=af (by simpa only [ym] using hz)
 refine qa Ge H F Z τ x _ ex hs λv H1 F1 g rx=>?_
 cases x with
 | int i=>cases ez;exact⟨i,rx.int,k _ H1 F1 g rfl⟩
 | _=>cases ez
theorem SndE.test (h:SndE call X e c) (he:∀whole,isTrue e X.env whole=(do let v <-whole;standAt e.pos;holding [v] (truthy v))):dj call X e c:=by
 obtain⟨t,p,q⟩:=h
 refine⟨_,qPz p he,λGe H F Z τ x b Q hz hs k=>?_⟩
 refine q Ge H F Z τ (x,.bl b) _ hz hs λv H' F' g rr=>?_
 cases x with
 | false=>exact⟨b,rr,k H' F' g⟩
 | true=>obtain⟨_,_,_,e,_⟩:=rr;cases e
theorem yw (ha:SndE call X a ca) (ht:dj call X a ca):SndE call X (.UnaryOp .Not a pos) (.not ca)/\dj call X (.UnaryOp .Not a pos) (.not ca):=by
 have inv:∀{Z:En} {z:R},aa call Z (.not ca)=some z->∃x b,aa call Z ca=some (x,.bl b)/\z=(false,.bl (!b)):=λ{Z z} hz=>by
  obtain⟨⟨x,d⟩,e1,e2⟩:=af (by simpa only [yn] using hz)
  cases d with
  | bl b=>cases e2;exact⟨x,b,e1,rfl⟩
  | _=>cases e2
 constructor
 ·obtain⟨t,p,q⟩:=ha
  refine⟨_,qPK p,λGe H F Z τ z Q hz hs k=>?_⟩
  obtain⟨x,b,e1,rfl⟩:=inv hz
  refine q Ge H F Z τ _ _ e1 hs λv H' F' g rr=>?_
  cases x with
  | false=>exact⟨b,rr,k _ H' F' g rfl⟩
  | true=>obtain⟨_,_,_,e,_⟩:=rr;cases e
 ·obtain⟨t,p,q⟩:=ht
  refine⟨_,qPA p,λGe H F Z τ x b Q hz hs k=>?_⟩
  obtain⟨x',b',e1,e2⟩:=inv hz
  cases e2
  exact q Ge H F Z τ x' b' _ e1 hs λH' F' g=>k H' F' g
variable (call X) in
def SndW (op:BoolOp) (es:List Expr) (c:C):Prop:=∀pos:Pos,SndE call X (.BoolOp op es pos) c/\∃t:TT,PW X (.BoolOp op es pos) t /\
 ∀(Ge:Gp) (H:Hp) (F:Fz) (Z:En) (τ:L2.St) (x b:Bool) (Q:Bool->Hp->Prop),aa call Z c=some (x,.bl b)->SR X.K Ge H F Z τ->(∀H' F',Gr H F H' F'->Q b H')->t τ H Q
theorem SndW.test (h:SndW call X op es c):dj call X (.BoolOp op es pos) c:=by
 obtain⟨_,t,p,q⟩:=h pos
 exact⟨t,p.pt,q⟩
theorem yx (ha:SndE call X a ca) (ht:dj call X a ca):SndW call X op [a] ca:=λpos=>by
 obtain⟨t,p,q⟩:=ha
 obtain⟨t',p',q'⟩:=ht
 refine⟨⟨t,qPJ p,q⟩,?_⟩
 cases op with
 | And=>exact⟨t',qNm p',q'⟩
 | Or=>exact⟨t',qPw p',q'⟩
theorem wj {K:Qb}{H H':Hp}{F':Fz}{x b:Bool}{v:V}(h:RR K H H' F' (x,.bl b) v):v=.bl b:=by
 cases x with
 | false=>exact h
 | true=>obtain⟨_,_,_,e,_⟩:=h;cases e
theorem qM9 {a b:Expr}{rest:List Expr}{ca cb:C}(ha:SndE call X a ca) (hta:dj call X a ca) (hb:SndW call X .And (b::rest) cb):SndW call X .And (a::b::rest) (.and ca cb):=λpos=>by
 obtain⟨hb1,tb',pb',qb'⟩:=hb pos
 have inv:∀{Z:En} {z:R},aa call Z (.and ca cb)=some z->∃x c,aa call Z ca=some (x,.bl c)/\(if c=true then aa call Z cb=some z else z=(false,.bl false)):=λ{Z z} hz=>by
  obtain⟨⟨x,d⟩,e1,e2⟩:=af (by simpa only [yi] using hz)
  cases d with
  | bl c=>cases c with
   | true=>exact⟨x,true,e1,e2⟩
   | false=>cases e2;exact⟨x,false,e1,rfl⟩
  | _=>cases e2
 constructor
 ·obtain⟨ta,pa,qa⟩:=ha
  obtain⟨tb,pb,qb⟩:=hb1
  refine⟨_,qPR pa pb,λGe H F Z τ z Q hz hs k=>?_⟩
  obtain⟨x,c,e1,e2⟩:=inv hz
  refine qa Ge H F Z τ _ _ e1 hs λv H' F' g rr=>⟨c,wj rr,?_⟩
  cases c with
  | true=>exact qb Ge H' F' Z τ z Q e2 (hs.grow g) λu H2 F2 g2 r2=>k u H2 F2 (g.trans g2) (r2.back g.same)
  | false=>have e2':z=(false,.bl false):=e2;subst e2';exact k _ H' F' g rfl
 ·obtain⟨ta,pa,qa⟩:=hta
  refine⟨_,qPy pa pb',λGe H F Z τ x b Q hz hs k=>?_⟩
  obtain⟨x',c,e1,e2⟩:=inv hz
  refine qa Ge H F Z τ x' c _ e1 hs λH' F' g=>?_
  cases c with
  | true=>exact qb' Ge H' F' Z τ x b Q e2 (hs.grow g) λH2 F2 g2=>k H2 F2 (g.trans g2)
  | false=>have e2':(x,D.bl b)=(false,.bl false):=e2;cases e2';exact k H' F' g
theorem qPd {a b:Expr}{rest:List Expr}{ca cb:C}(ha:SndE call X a ca) (hta:dj call X a ca) (hb:SndW call X .Or (b::rest) cb):SndW call X .Or (a::b::rest) (.or ca cb):=λpos=>by
 obtain⟨hb1,tb',pb',qb'⟩:=hb pos
 have inv:∀{Z:En} {z:R},aa call Z (.or ca cb)=some z->∃x c,aa call Z ca=some (x,.bl c)/\(if c=true then z=(false,.bl true) else aa call Z cb=some z):=λ{Z z} hz=>by
  obtain⟨⟨x,d⟩,e1,e2⟩:=af (by simpa only [xM] using hz)
  cases d with
  | bl c=>cases c with
   | false=>exact⟨x,false,e1,e2⟩
   | true=>cases e2;exact⟨x,true,e1,rfl⟩
  | _=>cases e2
 constructor
 ·obtain⟨ta,pa,qa⟩:=ha
  obtain⟨tb,pb,qb⟩:=hb1
  refine⟨_,qR0 pa pb,λGe H F Z τ z Q hz hs k=>?_⟩
  obtain⟨x,c,e1,e2⟩:=inv hz
  refine qa Ge H F Z τ _ _ e1 hs λv H' F' g rr=>⟨c,wj rr,?_⟩
  cases c with
  | false=>exact qb Ge H' F' Z τ z Q e2 (hs.grow g) λu H2 F2 g2 r2=>k u H2 F2 (g.trans g2) (r2.back g.same)
  | true=>have e2':z=(false,.bl true):=e2;subst e2';exact k _ H' F' g rfl
 ·obtain⟨ta,pa,qa⟩:=hta
  refine⟨_,qRW pa pb',λGe H F Z τ x b Q hz hs k=>?_⟩
  obtain⟨x',c,e1,e2⟩:=inv hz
  refine qa Ge H F Z τ x' c _ e1 hs λH' F' g=>?_
  cases c with
  | false=>exact qb' Ge H' F' Z τ x b Q e2 (hs.grow g) λH2 F2 g2=>k H2 F2 (g.trans g2)
  | true=>have e2':(x,D.bl b)=(false,.bl true):=e2;cases e2';exact k H' F' g
theorem qM3 (ht:dj call X t ct) (ha:SndE call X a ca) (hb:SndE call X b cb):SndE call X (.IfExp t a b pos) (.ifx ct ca cb):=by
 obtain⟨tt,pt,qt⟩:=ht
 obtain⟨ta,pa,qa⟩:=ha
 obtain⟨tb,pb,qb⟩:=hb
 refine⟨_,qKe pt pa pb,λGe H F Z τ z Q hz hs k=>?_⟩
 obtain⟨⟨x,d⟩,e1,e2⟩:=af (by simpa only [sM] using hz)
 cases d with
 | bl c =>
  refine qt Ge H F Z τ x c _ e1 hs λH' F' g=>?_
  cases c with
  | true=>exact oa (qa Ge H' F' Z τ z Q e2 (hs.grow g) λu H2 F2 g2 r2=>k u H2 F2 (g.trans g2) (r2.back g.same))
  | false=>exact n9 (qb Ge H' F' Z τ z Q e2 (hs.grow g) λu H2 F2 g2 r2=>k u H2 F2 (g.trans g2) (r2.back g.same))
 | _=>cases e2
theorem qPB (ht:PT X t tt) (ha:PT X a ta) (hb:PT X b tb):PT X (.IfExp t a b pos) (fun Z H Q=>tt Z H λc H1=>if c=true then ta Z H1 Q else tb Z H1 Q):=by
 intro pins s Z H Q I h
 rw [PySem.isTrue]
 refine Qc (aw (ht pins s Z H _ I h) λd s1 ⟨H1,I1,q1⟩=>?_)
 cases d with
 | true=>exact ha pins s1 Z H1 Q I1 q1
 | false=>exact hb pins s1 Z H1 Q I1 q1
theorem qJZ (ht:dj call X t ct) (ha:dj call X a ca) (hb:dj call X b cb):dj call X (.IfExp t a b pos) (.ifx ct ca cb):=by
 obtain⟨tt,pt,qt⟩:=ht
 obtain⟨ta,pa,qa⟩:=ha
 obtain⟨tb,pb,qb⟩:=hb
 refine⟨_,qPB pt pa pb,λGe H F Z τ x b Q hz hs k=>?_⟩
 obtain⟨⟨x',d⟩,e1,e2⟩:=af (by simpa only [sM] using hz)
 cases d with
 | bl c =>
  refine qt Ge H F Z τ x' c _ e1 hs λH' F' g=>?_
  cases c with
  | true=>exact oa (qa Ge H' F' Z τ x b Q e2 (hs.grow g) λH2 F2 g2=>k H2 F2 (g.trans g2))
  | false=>exact n9 (qb Ge H' F' Z τ x b Q e2 (hs.grow g) λH2 F2 g2=>k H2 F2 (g.trans g2))
 | _=>cases e2
theorem qQs (n:Nat) (i:Int):Dw.ixN n i=L2.ixN n i:=rfl
theorem ya {K:Qb}{H:Hp}{F:Fz}{ds:List D}{vs:List V}{i:Int}{d:D}(h:RDs K H F ds vs) (e:iS ds i=some d):∃v,lL vs i=some v/\RD K H F d v:=by
 obtain⟨j,e1,e2⟩:=af e
 obtain⟨v,e3,e4⟩:=RDs.get h e2
 refine⟨v,?_,e4⟩
 unfold lL
 rw [RDs.length h,<-qQs,e1]
 exact e3
theorem qPe {a b:Expr}{ca cb:C}{pos:Pos}(hp:pI b) (ha:dU call X a ca) (hb:dU call X b cb):SndE call X (.Subscript a b pos) (.ix ca cb):=by
 obtain⟨ta,pa,qa⟩:=ha
 obtain⟨tb,pb,qb⟩:=hb
 refine⟨_,qR2 (ix_list.or qQp) pa pb hp,λGe H F Z τ z Q hz hs k=>?_⟩
 obtain⟨x,y,ex,ey,ez⟩:=oW (by simpa only [xK] using hz)
 refine kQ (a:=a) (b:=b) qa qb ex ey hs λv w H2 F2 g rx ry=>?_
 cases x with
 | lst xs =>
  cases y with
  | int i =>
   obtain⟨d,e1,e2⟩:=yad.mp ez
   subst e2
   obtain⟨p,vs,rfl,hl,hr⟩:=rx.lst
   obtain⟨u,e3,e4⟩:=ya hr e1
   exact .inl ⟨p,vs,i,u,rfl,ry.int,hl,e3,k u H2 F2 g e4⟩
  | _=>cases ez
 | tup xs =>
  cases y with
  | int i =>
   obtain⟨d,e1,e2⟩:=yad.mp ez
   subst e2
   obtain⟨p,vs,rfl,hl,hr⟩:=rx.tup
   obtain⟨u,e3,e4⟩:=ya hr e1
   exact .inr ⟨p,vs,i,u,rfl,ry.int,hl,e3,k u H2 F2 g e4⟩
  | _=>cases ez
 | _=>cases y<;>cases ez
theorem lG (n d:Nat) (o:Option Int):Dw.cutAt n d o=HT.sIx n d o:=by
 cases o with
 | none=>rfl
 | some v =>
  have h:=HT.clip_eq v n d
  unfold Dw.cutAt
  by_cases hv:v<0
  ·simp only [hv,if_true] at h ⊢;omega
  ·simp only [hv,if_false] at h ⊢;omega
theorem ye {K:Qb}{H:Hp}{F:Fz}{ds:List D}{vs:List V}(h:RDs K H F ds vs) (l u:Option Int):RDs K H F (gI ds l u) (i6 vs l u):=by
 unfold gI i6
 rw [RDs.length h,lG,lG]
 exact RDs.take _ (RDs.drop _ h)
theorem qPc {a:Expr}{lo hi:Option Expr}{ca:C}{cl ch:Option C}{p2 pos:Pos}(ha:dU call X a ca) (hl:me call X lo cl) (hh:me call X hi ch):SndE call X (.Subscript a (.Slice lo hi none p2) pos) (.sl ca cl ch):=by
 obtain⟨ta,pa,qa⟩:=ha
 obtain⟨tl,pl,ql⟩:=hl
 obtain⟨th,ph,qh⟩:=hh
 refine⟨_,qKd ((sl_list.or qPj).or qPk) pa pl ph,λGe H F Z τ z Q hz hs k=>?_⟩
 obtain⟨x,ex,hz⟩:=af (by simpa only [xN] using hz)
 obtain⟨l,el,hz⟩:=af hz
 obtain⟨u,eu,hz⟩:=af hz
 refine qa Ge H F Z τ x _ ex hs λv H1 F1 g1 rx=>?_
 refine ql Ge H1 F1 Z τ l _ el (hs.grow g1) λH2 F2 g2=>?_
 refine qh Ge H2 F2 Z τ u _ eu ((hs.grow g1).grow g2) λH3 F3 g3=>?_
 have g:=(g1.trans g2).trans g3
 have rx3:=(rx.grow g2).grow g3
 cases x with
 | lst xs =>
  cases hz
  obtain⟨p,vs,rfl,hl',hr⟩:=rx3.lst
  refine .inl (.inl ⟨p,vs,rfl,hl',λq hq=>?_⟩)
  obtain⟨g4,rr⟩:=iu g.dom hq (ye hr l u)
  exact k _ _ _ (g.trans g4) (rr.back g.same)
 | tup xs =>
  cases hz
  obtain⟨p,vs,rfl,hl',hr⟩:=rx3.tup
  by_cases hw:Dw.cutAt xs.length 0 l=0/\Dw.cutAt xs.length xs.length u=xs.length
  ·refine .inr ⟨p,vs,rfl,hl',?_,?_⟩
   ·rw [RDs.length hr,<-lG,<-lG];exact hw
   ·have e:gI xs l u=xs:=by
     unfold gI
     rw [hw.1,hw.2]
     simp
    have e':(false,D.tup (gI xs l u))=(false,D.tup xs):=by rw [e]
    refine k _ H3 F3 g ?_
    rw [e]
    exact⟨p,vs,rfl,hl',hr⟩
  ·refine .inl (.inr ⟨p,vs,rfl,hl',?_,λq hq=>?_⟩)
   ·rw [RDs.length hr,<-lG,<-lG];exact hw
   ·obtain⟨g4,rr⟩:=ly g.dom hq (ye hr l u)
    exact k _ _ _ (g.trans g4) (rr.back g.same)
 | _=>cases hz
theorem RDs.rev {K:Qb}{H:Hp}{F:Fz}:∀{ds:List D}{vs:List V},RDs K H F ds vs->RDs K H F ds.reverse vs.reverse
 | [],vs,h=>by have h:vs=[]:=h;subst h;rfl
 | d::ds,vs,h=>by
  obtain⟨v,r,rfl,h1,h2⟩:=h
  rw [lT,lT]
  exact RDs.append (RDs.rev h2) ⟨v,[],rfl,h1,rfl⟩
theorem qHu:me call X none none:=⟨_,qNq,λGe H F Z τ o Q ho hs k=>by cases ho;exact k H F (Gr.refl hs.dom)⟩
theorem qHt (h:dU call X e c):me call X (some e) (some c):=by
 obtain⟨t,p,q⟩:=h
 refine⟨_,qNp p,λGe H F Z τ o Q ho hs k=>?_⟩
 obtain⟨x,ex,ez⟩:=af (by simpa only [zg] using ho)
 refine q Ge H F Z τ x _ ex hs λv H1 F1 g rx=>?_
 cases x with
 | int i=>cases ez;exact⟨i,rx.int,k H1 F1 g⟩
 | _=>cases ez
theorem qJ3:ju call X [] []:=⟨_,il,λGe H F Z τ ds Q h hs k=>by cases h;exact k [] H F (Gr.refl hs.dom) rfl⟩
theorem qHC (hst:starEach (e::es) X.env=(false,eval e X.env)::starEach es X.env) (h:SndE call X e c) (hr:ju call X es cs):ju call X (e::es) (c::cs):=by
 obtain⟨t,p,q⟩:=h
 obtain⟨t',p',q'⟩:=hr
 refine⟨_,fL p p' hst,λGe H F Z τ ds Q hd hs k=>?_⟩
 obtain⟨r,er,hd⟩:=af (by simpa only [dC] using hd)
 obtain⟨ds',ed,hd⟩:=af hd
 cases hd
 refine q Ge H F Z τ r _ er hs λv H1 F1 g rr=>?_
 obtain⟨F2,g2,rd⟩:=rr.fz g
 refine q' Ge H1 F2 Z τ ds' _ ed (hs.grow g2) λvs H3 F3 g3 rs=>?_
 exact k (v::vs) H3 F3 (g2.trans g3) ⟨v,vs,rfl,RD.mono g3.keep rd,rs⟩
theorem qHy:mj call X [] []:=⟨_,il,λGe H F Z τ ds Q h hs k=>by cases h;exact k [] H F (Gr.refl hs.dom) rfl⟩
theorem RGs.grow {K:Qb}{H H1:Hp}{F F1:Fz}(g:Gr H F H1 F1):∀{ds:List D}{vs:List V},RGs K H F ds vs->RGs K H1 F1 ds vs
 | [],_,h=>h
 | _::_,_,⟨v,r,e,h1,h2⟩=>⟨v,r,e,h1.grow g,RGs.grow g h2⟩
theorem qGC (hst:starEach (e::es) X.env=(false,eval e X.env)::starEach es X.env) (h:oD call X e c) (hr:mj call X es cs):mj call X (e::es) (c::cs):=by
 obtain⟨t,p,q⟩:=h
 obtain⟨t',p',q'⟩:=hr
 refine⟨_,fL p p' hst,λGe H F Z τ ds Q hd hs k=>?_⟩
 obtain⟨r,er,hd⟩:=af (by simpa only [jT] using hd)
 obtain⟨ds',ed,hd⟩:=af hd
 cases hd
 refine q Ge H F Z τ r _ er hs λv H1 F1 g rr=>?_
 refine q' Ge H1 F1 Z τ ds' _ ed (hs.grow g) λvs H3 F3 g3 rs=>?_
 exact k (v::vs) H3 F3 (g.trans g3) ⟨v,vs,rfl,rr.grow g3,rs⟩
theorem qHB:ja call X [] []:=⟨_,il,λGe H F Z τ ds Q h hs k=>by cases h;exact k [] H F (Gr.refl hs.dom) rfl⟩
theorem qGD (hst:starEach (e::es) X.env=(false,eval e X.env)::starEach es X.env) (h:dU call X e c) (hr:ja call X es cs):ja call X (e::es) (c::cs):=by
 obtain⟨t,p,q⟩:=h
 obtain⟨t',p',q'⟩:=hr
 refine⟨_,fL p p' hst,λGe H F Z τ ds Q hd hs k=>?_⟩
 obtain⟨r,er,hd⟩:=af (by simpa only [tN] using hd)
 obtain⟨ds',ed,hd⟩:=af hd
 cases hd
 refine q Ge H F Z τ r _ er hs λv H1 F1 g rr=>?_
 refine q' Ge H1 F1 Z τ ds' _ ed (hs.grow g) λvs H3 F3 g3 rs=>?_
 exact k (v::vs) H3 F3 (g.trans g3) ⟨v,vs,rfl,rr.grow g3,rs⟩
theorem qMV (h:ju call X es cs):SndE call X (.Tuple es x1 pos) (.tup cs):=by
 obtain⟨t,p,q⟩:=h
 refine⟨_,qPH p,λGe H F Z τ z Q hz hs k=>?_⟩
 obtain⟨ds,ed,hz⟩:=af (by simpa only [iO] using hz)
 obtain⟨h1,rfl⟩:=cQ hz
 refine q Ge H F Z τ ds _ ed hs λvs H1 F1 g rs=>⟨by rw [RDs.length rs];exact h1,λp hp=>?_⟩
 obtain⟨g4,rr⟩:=ly g.dom hp rs
 exact k _ _ _ (g.trans g4) (rr.back g.same)
theorem qM1 (h:ju call X es cs):SndE call X (.List es pos) (.lst cs):=by
 obtain⟨t,p,q⟩:=h
 refine⟨_,qPM p,λGe H F Z τ z Q hz hs k=>?_⟩
 obtain⟨ds,ed,hz⟩:=af (by simpa only [yk] using hz)
 obtain⟨h1,rfl⟩:=cQ hz
 refine q Ge H F Z τ ds _ ed hs λvs H1 F1 g rs=>⟨by rw [RDs.length rs];exact h1,λp hp=>?_⟩
 obtain⟨g4,rr⟩:=iu g.dom hp rs
 exact k _ _ _ (g.trans g4) (rr.back g.same)
noncomputable def dz:Expr->Bool
 | .Starred _ _=>false
 | _=>true
theorem bZ (h:dz e=true):starEach (e::es) env=(false,eval e env)::starEach es env:=by
 cases e<;>first|rfl|cases h
theorem jW:∀{es:List Expr}{env:Env}{pos:Pos},es.all dz=true->(backTo pos (starEach es env)).any (·.1)=false
 | [],env,pos,_=>rfl
 | e::es,env,pos,h=>by
  rw [fy,aI] at h
  rw [bZ h.1]
  have:=jW (env:=env) (pos:=pos) h.2
  simpa [backTo] using this
theorem wx {Z:En}{d:Int}:∀{cs:List C}{ds:List D},eU call Z (cs++[.k (.int d)])=some ds->∃es,eU call Z cs=some es/\ds=es++[.int d]
 | [],ds,h=>⟨[],rfl,by cases h;rfl⟩
 | c::cs,ds,h=>by
  obtain⟨x,e1,h⟩:=af h
  obtain⟨xs,e2,h⟩:=af h
  cases h
  obtain⟨es,e3,rfl⟩:=wx e2
  exact⟨x::es,by show (ag Z c (aa call Z c)).bind _=_;rw [e1];show (eU call Z cs).bind _=_;rw [e3];rfl,rfl⟩
theorem RGs.add {K:Qb}{H:Hp}{F:Fz}{d:Int}:∀{ds:List D}{vs:List V},RGs K H F ds vs->RGs K H F (ds++[.int d]) (vs++[.int d])
 | [],_,h=>by cases show _=[] from h;exact⟨_,[],rfl,.inl rfl,rfl⟩
 | _::_,_,⟨v,r,e,h1,h2⟩=>⟨v,r++[.int d],by rw [e];rfl,h1,h2.add⟩
theorem qJ1 (g:XG call G k X sc N) (hf:G.defs.lookup f=some i) (hg:bt sc f=true) (hd:(f == ("__debug__":Str))=false) (hn:es.all dz=true) (hne:es≠[]) (h:mj call X es cs) :
  SndE call X (.Call (.Name f p) es [] pos) (.call i (cs++nk G f es.length)):=by
 obtain⟨a,fd,ps,hm,hk,hb,hF,hl,hq⟩:=(g.defs f i hf).ex
 obtain⟨t,pt,q⟩:=h
 have hz:nk G f es.length=[]∨∃m d,G.dfl.lookup f=some (m,d)/\nk G f es.length=[.k (.int d)]:=by
  unfold nk
  cases e:G.dfl.lookup f with
  | none=>exact .inl rfl
  | some u =>
   obtain⟨m,d⟩:=u
   by_cases z:es.length=m
   ·exact .inr ⟨m,d,rfl,Ql z⟩
   ·exact .inl (Qm z)
 cases es with
 | nil=>exact Qn rfl hne
 | cons e es =>
  rw [fy,aI] at hn
  rcases hz with hz|⟨m,d,e1,hz⟩
  ·rw [hz,cL]
   refine⟨_,yH hF g.room (g.gl f hg) hm hk hb .nil wF pt hd (bZ hn.1) (jW hn.2),λGe H F Z τ z Q hz hs k=>?_⟩
   obtain⟨ds,ed,hz⟩:=af hz
   refine q Ge H F Z τ ds _ ed hs λvs H1 F1 g1 rs=>?_
   rw [cL]
   exact⟨by rw [RGs.length rs];exact hl ds z hz,F1,ds,z,(hs.grow g1).tbH,g1.dom,rs,hz,λv H' F' g2 rr=>k v H' F' (g1.trans g2) (rr.back g1.same)⟩
  ·rw [hz]
   obtain⟨tk,hb⟩:=hq m d e1
   refine⟨_,yH (dvs:=[.int d]) hF g.room (g.gl f hg) hm hk hb (.cons ⟨tk,rfl⟩ .nil) wF pt hd (bZ hn.1) (jW hn.2),λGe H F Z τ z Q hz hs k=>?_⟩
   obtain⟨ds,ed,hz⟩:=af hz
   obtain⟨ds',ed',rfl⟩:=wx ed
   refine q Ge H F Z τ ds' _ ed' hs λvs H1 F1 g1 rs=>?_
   exact⟨by rw [RGs.length rs.add];exact hl _ z hz,F1,_,z,(hs.grow g1).tbH,g1.dom,rs.add,hz,λv H' F' g2 rr=>k v H' F' (g1.trans g2) (rr.back g1.same)⟩
theorem mL {id:String}{b:BI}{es:List Expr}{cs:List C}{p pos:Pos}{r:List V->Hp->VK->Prop}(hc:CallR X (.builtin id) r) (hg:Gl X x) (hm:X.mg x=none) (hv:Qo x=some (.builtin id)) (hnm:x≠"__name__") (hdb:(x == ("__debug__":Str))=false)
  (hn:es.all dz=true) (hne:es≠[]) (h:ja call X es cs)
  (hr:∀(H:Hp) (F:Fz) (ds:List D) (vs:List V) (z:R) (Q:VK),lK b ds=some z->(∀a,H a=none->¬F a)->RPs X.K H F ds vs->(∀v H' F',Gr H F H' F'->RR X.K H H' F' z v->Q v H')->r vs H Q) :
  SndE call X (.Call (.Name x p) es [] pos) (.bi b cs):=by
 obtain⟨t,pt,q⟩:=h
 cases es with
 | nil=>exact Qn rfl hne
 | cons e es =>
  rw [fy,aI] at hn
  refine⟨_,zt hc hg hm hv pt hnm hdb (bZ hn.1) (jW hn.2),λGe H F Z τ z Q hz hs k=>?_⟩
  obtain⟨ds,ed,hz⟩:=af (by simpa only [sj] using hz)
  refine q Ge H F Z τ ds _ ed hs λvs H1 F1 g1 rs=>?_
  exact hr H1 F1 ds vs z Q hz g1.dom rs λv H' F' g2 rr=>k v H' F' (g1.trans g2) (rr.back g1.same)
theorem tR {id:String}{b:BI}{es:List Expr}{cs:List C}{p pos:Pos}{r:List V->Hp->VK->Prop}(hc:CallR X (.type id) r) (hg:Gl X x) (hm:X.mg x=none) (hv:Qo x=some (.type id)) (hnm:x≠"__name__") (hdb:(x == ("__debug__":Str))=false)
  (hn:es.all dz=true) (hne:es≠[]) (h:ja call X es cs)
  (hr:∀(H:Hp) (F:Fz) (ds:List D) (vs:List V) (z:R) (Q:VK),lK b ds=some z->(∀a,H a=none->¬F a)->RPs X.K H F ds vs->(∀v H' F',Gr H F H' F'->RR X.K H H' F' z v->Q v H')->r vs H Q) :
  SndE call X (.Call (.Name x p) es [] pos) (.bi b cs):=by
 obtain⟨t,pt,q⟩:=h
 cases es with
 | nil=>exact Qn rfl hne
 | cons e es =>
  rw [fy,aI] at hn
  refine⟨_,qHT hc hg hm hv pt hnm hdb (bZ hn.1) (jW hn.2),λGe H F Z τ z Q hz hs k=>?_⟩
  obtain⟨ds,ed,hz⟩:=af (by simpa only [sj] using hz)
  refine q Ge H F Z τ ds _ ed hs λvs H1 F1 g1 rs=>?_
  exact hr H1 F1 ds vs z Q hz g1.dom rs λv H' F' g2 rr=>k v H' F' (g1.trans g2) (rr.back g1.same)
end
end Dw
namespace Dw
open PySem PySem.Spec PyProof.Rows L2
section
variable {call:Nat->List D->Option R}{G:Gx}{k:Nat}{X:Cx}{sc:Scope}{N:List Str}
theorem TB.off {H:Hp}{cs:List (Addr×Obj)}(h:TB H) (CI:cR H cs):TB (bI H cs):=λt m=>by
 have e:=h t m
 have z:cs.lookup t.1=none:=by
  cases z:cs.lookup t.1 with
  | none=>rfl
  | some o=>have q:=CI _ o z;rw [e] at q;cases q
 rw [cH z];exact e
theorem qPi (g:XG call G k X sc N) {x:Str}{i:Nat}{es:List Expr}{ca:List C}{p pos:Pos}(hv:cV sc N x=some i) (hn:es.all dz=true) (hne:es≠[]) (h:ju call X es ca):SndE call X (.Call (.Name x p) es [] pos) (.cv i ca):=by
 obtain⟨e0,es,rfl⟩:=uZ hne
 rw [fy,aI] at hn
 obtain⟨tn,pn,qn⟩:=(zx (call:=call) (pos:=p) g hv).1
 obtain⟨ta,pa,qa⟩:=h
 refine⟨fun τ H Q=>∃Ge F Z r,aa call Z (.cv i ca)=some r/\SR X.K Ge H F Z τ/\∀v H' F',Gr H F H' F'->RR X.K H H' F' r v->Q v H',λpins s τ H Q I ⟨Ge,F,Z,r,h1,h2,h3⟩=>?_,λGe H F Z τ r Q h1 h2 h3=>⟨Ge,F,Z,r,h1,h2,h3⟩⟩
 rw [xJ] at h1
 obtain⟨y,e1,h1⟩:=af h1
 obtain⟨⟨b,d⟩,e2,h1⟩:=af h1
 cases b with
 | true=>cases h1
 | false =>
  cases d with
  | obj kn ds =>
   have h1:(if (decide (CL<=kn.c)&&(dv y&&dv ds))=true then call (kn.c - CL) (y++ds) else none)=some r:=h1
   split at h1
   ·rename_i hc
    rw [aI,aI,decide_eq_true_eq] at hc
    obtain⟨c1,c2,c3⟩:=hc
    refine wpAny_Call_Name_kw (aw (pn pins s τ H (λv H1=>∃F1,Gr H F H1 F1/\RD X.K H1 F1 (.obj kn ds) v) I (qn Ge H F Z τ (false,.obj kn ds) _ (by rw [wu,e2];rfl) h2 λv H1 F1 g1 rr=>⟨F1,g1,rr⟩)) λu s1 ⟨v,H1,I1,ru,F1,g1,rd⟩=>?_)
    obtain⟨f,vs,rfl,ho,hds⟩:=rd
    have ru:u=.ref f:=ru
    subst ru
    unfold ObjR at ho
    rw [Ql c1] at ho
    have keep:∀{H2:Hp},Same H1 H2->CloR H2 f kn vs:=λs=>ho.mono λa o w e=>s _ _ e
    have fat:∀{s2:Shared} {τ2:L2.St} {pins2:List (Addr×Obj)} {H2:Hp},Inv X pins2 τ2 H2 s2->CloR H2 f kn vs->PySem.W.FnAt f s2.heap:=λJ c=>by
     obtain⟨_,L,clos,pm,ctv,c',uf,oc,uc,fs,t0,cs,_,q2,_⟩:=c
     exact⟨_,_,_,_,(J.hok f _ q2).1⟩
    refine PySem.W.callWith_F (first:=[]) (fat I1 ho) (aw (pa pos pins s1 τ H1 (λws H2=>∃F2,Gr H1 F1 H2 F2/\RDs X.K H2 F2 y ws) I1 (qa Ge H1 F1 Z τ y _ e1 (h2.grow g1) λws H2 F2 g2 rs=>⟨F2,g2,rs⟩)) λus s2 ⟨ws,H2,I2,rus,F2,g2,rs⟩=>⟨fat I2 (keep g2.same),?_⟩) (bZ hn.1) (jW hn.2)
    obtain⟨_,L,clos,pm,ctv,c',uf,oc,uc,fs,t0,cs,l1,l2,l3,l4,l5,l6,l7,l8,l9,l10,l11,l12⟩:=keep g2.same
    obtain⟨px,b1,b2,b3,b4,b5,b6,bn,b7,bl,b8⟩:=(g.lam _ L l1).ex
    have hlw:ws.length=px.length:=by
     have q1:=bl _ _ h1
     have q2:=RDs.length rs
     have q3:=RDs.length hds
     rw [bf] at q1
     omega
    obtain⟨t,pt,qt⟩:=b8 f c' clos X.A X.stack s2 (bI H2 cs) g.room
    refine qNd (N:=px++aB L.sc) (Z:=ws.map some++vs.map some) I2 g.room.depth g.room.hd l2 l3 l4 l5 l6 l7 l8 b1 b2 b3 b4 (b7 clos pm c' ctv us (by rw [<-rus.length];exact hlw)) b5 bn rus (by simp [l11,hlw]) (λi y v q1 q2=>?_) l9 l10 pt (qt (bI H2 cs) (Fc F2 cs) y ds ws vs r _ (((h2.grow g1).grow g2).tbH.off l7) (qNF g2.dom) h1 (RDs.off l7 c2 rs) (RDs.off l7 c3 (RDs.mono g2.keep hds)) hlw l11 λv' H' F' g3 rr non=>?_)
    ·by_cases hi:i<px.length
     ·rw [jq hi] at q1
      rw [jq (by rw [aC];omega),cu] at q2
      obtain⟨v2,q3,q4⟩:=yad.mp q2
      cases q4
      exact .inl ⟨i,q1,q3⟩
     ·rw [gE (by omega)] at q1
      rw [gE (by rw [aC];omega),aC,hlw,cu] at q2
      obtain⟨v2,q3,q4⟩:=yad.mp q2
      cases q4
      obtain⟨b,o,u,e3,e4,e5,e6⟩:=l12 _ y v q1 q3
      exact .inr ⟨b6 y (cj q1),b,o,u,e3,e4,e5,e6⟩
    ·exact h3 v' (bR H' cs) _ ((g1.trans g2).trans (qSp g2.dom l7 non g3)) ((qRQ g2.dom l7 non g3.dom rr).back (g1.trans g2).same)
   ·cases h1
  | _=>cases h1
end
end Dw
namespace Dw
open PySem PySem.W PySem.Calls PyProof.Rows
section
variable {prog:Program}{w:World}{A:Around}{E:Value->Shared->Prop}{s:Shared}{r l:Addr}
theorem qNO:typeLookup (.type "list_reverseiterator") "__len__"=pure none:=by rw [typeLookup_type,builtinLookup_eq_fast];kernel_rfl
theorem qKy:typeLookup (.type "list_reverseiterator") "__length_hint__"=pure (some (.builtin "list_reverseiterator.__length_hint__")):=by rw [typeLookup_type,builtinLookup_eq_fast];kernel_rfl
theorem qKI {Q:Bool->Shared->Prop}(hT:s.TypeIs (.ref r) "list_reverseiterator") (h:Q false s):wpAny (model prog w) A (Builtin.List.listLengthHint (.ref r)) Q E s:=by
 unfold Builtin.List.listLengthHint
 refine Qc (wpAny_specialOf hT qNO ?_)
 try dsimp only
 refine wpAny_ite_split (λz=>Qn z (by decide)) λ_=>?_
 refine wpAny_ite_split (λz=>Qn z (by decide)) λ_=>?_
 refine Qc (wpAny_specialOf hT qKy ?_)
 try dsimp only
 rw [show splitId "list_reverseiterator.__length_hint__"=some ("list_reverseiterator","__length_hint__") from by decide +kernel]
 try dsimp only
 refine Qc (wpAny_isInstance (T:="list_reverseiterator") (b:=true) hT (by rw [isSubtype_type];kernel_rfl) ?_)
 refine wpAny_ite_split (λz=>Qn z (by decide)) λ_=>?_
 refine wpAny_ite_split (λ_=>?_) λz=>Qn (by decide +kernel) z
 refine wpAny_ite_split (λz=>Qn z (by decide +kernel)) λ_=>?_
 exact Qd h
theorem qGP {R:Result->Shared->Prop}{items:Array Value}(hh:A.handled=none) (hI:s.heap.IsRevIter r l ((items.size:Int) - 1)) (hl:s.heap.IsList l items) (hrl:l≠r) (S:Addr) (hSr:S≠r) (hSl:S≠l) (res:Value) (c₀:Nat) (hS:s.heap.get? S=some { cls:=.type "list",data:=.seq #[] c₀ }) (hn:items.size<=sizeLine)
  (hR:∀hp k (row:Array Value) m,(∀b o,b≠S->b≠r->s.heap.get? b=some o->hp.get? b=some o)->hp.get? S=some { cls:=.type "list",dict:=none,data:=.seq row m,slots:=#[] }->ItemsOf (λi v=>items[items.size - 1 - i]?=some v) row items.size->R (.ok (.ret res)) { s with heap:=hp,toks:=k }) :
  wpAny (model prog w) A.in1 (Builtin.List.listExtendWith (.ref S) (.ref r) res)
   (λfin z=>match fin with|.done f=>R (.ok f) z|.again cd=>cd.quiet=true/\codeAny (model prog w) A cd R z) (λe z=>R (.error e) z) s:=by
 have W:=Walks.listRev (prog:=prog) (w:=w) (A:=A.in1) hh r l hrl items
 have hSf:S∉[r,l]:=by simp [hSr,hSl]
 have loop:codeAny (model prog w) A (.builtin "list.extend.loop" ⟨[.ref S,.ref r,res],[]⟩) R s:=by
  refine codeAny_extend_loopS W.toS hn S hSf res items.size 0 s #[] c₀ rfl (fx _) ⟨fx _,by simpa using hI,hl⟩ hS (ItemsOf.nil _) λz row m mv at_ its=>?_
  rw [Moved.eq_with mv]
  refine hR z.heap z.toks row m (λb o h1 h2 e=>mv.heap b o (λq=>?_) e) at_ its
  rcases yag.mp q with q|q
  ·exact h1 q
  ·exact h2 (yaB.mp q)
 unfold Builtin.List.listExtendWith
 refine Qc (wpAny_typeOf hI.typeIs ?_)
 have e1:Builtin.List.listSameRef (.ref S) (.ref r)=false:=by simp [Builtin.List.listSameRef,hSr]
 rw [e1]
 refine wpAny_ite_split (λz=>Qn z (by decide +kernel)) λ_=>?_
 refine Qc (wpAny_pyIter_revIter hI ?_)
 refine Qc (wpAny_holding (qKI hI.typeIs ?_))
 refine wpAny_ite_split (λz=>Qn z (by decide +kernel)) λ_=>?_
 exact Qd ⟨plainId_quiet PySem.F.plain_extend_loop _,loop⟩
theorem qEj {Q:Value->Shared->Prop}{items:Array Value}(hh:A.handled=none) (hI:s.heap.IsRevIter r l ((items.size:Int) - 1)) (hl:s.heap.IsList l items) (hrl:l≠r) (hn:items.size<=sizeLine)
  (hQ:∀hp k (row:Array Value) m,(∀b o,b≠r->s.heap.get? b=some o->hp.get? b=some o)->hp.get? s.heap.objs.size=some { cls:=.type "list",dict:=none,data:=.seq row m,slots:=#[] }->ItemsOf (λi v=>items[items.size - 1 - i]?=some v) row items.size->Q (.ref s.heap.objs.size) { s with heap:=hp,toks:=k }) :
  wpAny (model prog w) A (call (.type "list") [.ref r]) Q E s:=by
 obtain⟨oI,hoI,hcI,hdI⟩:=id hI
 obtain⟨ol,hol,_⟩:=id hl
 have nr:=iD (Qi hoI)
 have nl:=iD (Qi hol)
 refine callType_codes (Q₁:=λobj z=>obj=.ref s.heap.objs.size/\z={ s with heap:=s.heap.push { cls:=.type "list",data:=.seq #[] } }) PySem.F.called_list (PySem.F.typeCall_list_1 _) PySem.F.entry_list_init (code_list_new _ ⟨rfl,rfl⟩) λobj z hz=>?_
 obtain⟨rfl,rfl⟩:=hz
 have at0:(s.heap.push { cls:=.type "list",data:=.seq #[] }).get? s.heap.objs.size=some { cls:=.type "list",data:=.seq #[] }:=Qh _ rfl
 refine⟨⟨_,at0,rfl⟩,PySem.F.args_list_init_2 _ _,?_⟩
 show wpAny _ _ (do let old <-Builtin.List.listItems (.ref s.heap.objs.size);Builtin.List.listUpdate (.ref s.heap.objs.size) (λ_=>#[]);letGo old.toList.reverse;Builtin.List.listExtendWith (.ref s.heap.objs.size) (.ref r) .none) _ _ _
 refine Qc ?_
 unfold Builtin.List.listItems
 refine Qc (wpAny_seqItems at0 rfl (Qd ?_))
 refine Qc (m:=Builtin.List.listUpdate (.ref s.heap.objs.size) (λ_=>#[])) (show wpAny _ _ (updateSeq s.heap.objs.size (λ_=>#[])) _ _ _ from wpAny_updateSeq at0 rfl ?_)
 have at1:=Heap.get?_update_self (Obj.mapSeq (λ_=>(#[]:Array Value))) at0 rfl
 have on:∀b o,s.heap.get? b=some o->((s.heap.push { cls:=.type "list",data:=.seq #[] }).update s.heap.objs.size (Obj.mapSeq (λ_=>(#[]:Array Value)))).get? b=some o:=λb o e =>
  (Heap.get?_update_other _ _ (iD (Qi e))).trans (Qg _ e)
 refine Qc (wpAny_letGo ?_)
 refine qGP (prog:=prog) (w:=w) (A:=A.in1) (s:={ s with heap:=(s.heap.push { cls:=.type "list",data:=.seq #[] }).update s.heap.objs.size (Obj.mapSeq (λ_=>(#[]:Array Value))) }) (items:=items) (l:=l) hh ⟨oI,on _ _ hoI,hcI,hdI⟩ ?_ hrl _ nr nl .none _ at1 hn λhp k row m keep at_ its=>?_
 ·obtain⟨o,h1,h2⟩:=hl
  exact⟨o,on _ _ h1,h2⟩
 ·exact⟨rfl,hQ hp k row m (λb o hb e=>keep b o (bK (Qi e)) hb (on b o e)) at_ its⟩
end
end Dw
namespace Dw
open PySem PySem.Spec PyProof.Rows L2
theorem qNe {its:List Value}{row:Array Value}(h:ItemsOf (λi v=>its.toArray[its.toArray.size - 1 - i]?=some v) row its.toArray.size):row.toList=its.reverse:=by
 obtain⟨h1,h2⟩:=h
 have h1:row.size=its.length:=by simpa using h1
 apply List.ext_getElem
 ·simp [h1]
 ·intro i q1 q2
  have q1:i<row.size:=by simpa using q1
  have:=h2 i row[i] (lW q1)
  simp only [aH,List.getElem?_toArray] at this
  obtain⟨q,e⟩:=yao.mp this
  rw [List.getElem_reverse,Array.getElem_toList]
  exact e.symm
section
variable {X:Cx}
theorem qGI {x y:Str}{e:Expr}{te:TE}{p p2 pos pos2:Pos}(hc:X.calm=true) (hg:Gl X x) (hm:X.mg x=none) (hv:Qo x=some (.type "list")) (hn:x≠"__name__") (hd:(x == ("__debug__":Str))=false)
  (hg':Gl X y) (hm':X.mg y=none) (hv':Qo y=some (.type "reversed")) (hn':y≠"__name__") (hd':(y == ("__debug__":Str))=false) (he:PE X e te) (hst:starEach [e] X.env=[(false,eval e X.env)]) :
  PE X (.Call (.Name x p) [.Call (.Name y p2) [e] [] pos2] [] pos) (fun Z H Q=>te Z H λv H1=>∃a xs,v=.ref a/\SqL X.K H1 a xs/\∀l,H1 l=none->Q (.ref l) (av H1 l (.lst xs.reverse))):=by
 intro pins s Z H Q I h
 refine wpAny_Call_Name_kw (ik I hg hm hv ?_ hn hd)
 refine iV (Calls.spliced_cons ?_)
 refine wpAny_Call_Name_kw (ik I hg' hm' hv' ?_ hn' hd')
 have ha:wpAny (model X.prog X.w) X.A (spliced (backTo pos2 (starEach [e] X.env))) (λus s1=>∃vs H1,Inv X pins Z H1 s1/\Vals vs us/\match vs with|[v]=>∃a xs,v=.ref a/\SqL X.K H1 a xs/\∀l,H1 l=none->Q (.ref l) (av H1 l (.lst xs.reverse))|_=>False) X.xe s:=
  (fL he il hst) pos2 pins s Z H (λvs H1=>match vs with|[v]=>∃a xs,v=.ref a/\SqL X.K H1 a xs/\∀l,H1 l=none->Q (.ref l) (av H1 l (.lst xs.reverse))|_=>False) I h
 refine iV (aw ha λus s1 hq=>?_) hst rfl
 obtain⟨vs,H1,I1,r1,q⟩:=hq
 match vs,r1,q with
 | [v],r1,q =>
  obtain⟨a,xs,rfl,hq,q⟩:=q
  obtain⟨u,rfl,ru⟩:=gd r1
  cases ru
  obtain⟨its,rv,pl,hz⟩:=I1.list hq
  refine call_reversed_list pl.isList ?_
  have hit:H1 s1.heap.objs.size=none:=I1.hok.fresh (ar _)
  have I2:Inv X pins Z H1 { s1 with heap:=s1.heap.push (revObj a ((its.toArray.size:Int) - 1)) }:=I1.kept (t':=s1.toks) λb o eb=>Qg _ eb
  obtain⟨f0,f1,f2,f3,f4,f5⟩:=I1.fpOk (ar _) hit
  obtain⟨o,ho,hcl,n,hda⟩:=pl.isList
  have hlt:=Qi ho
  refine Calls.spliced_nil ?_
  refine qEj (items:=its.toArray) (l:=a) (I2.ok.hd hc) ⟨_,Qh _ rfl,rfl,rfl⟩ ⟨o,Qg _ ho,hcl,n,hda⟩ (bK hlt) (by rw [aH,<-rv.length];exact hz) λhp k row m keep at_ rows=>?_
  have hrow:=qNe rows
  have hL:H1 (s1.heap.push (revObj a ((its.toArray.size:Int) - 1))).objs.size=none:=I2.hok.fresh (ar _)
  have hne:s1.heap.objs.size≠(s1.heap.push (revObj a ((its.toArray.size:Int) - 1))).objs.size:=by rw [Heap.size_push];omega
  have hz2:xs.reverse.length<=sizeLine:=by rw [nQ];exact hz
  have I3:Inv X pins Z (av H1 (s1.heap.push (revObj a ((its.toArray.size:Int) - 1))).objs.size (.lst xs.reverse)) { s1 with heap:=(s1.heap.push (revObj a ((its.toArray.size:Int) - 1))).push { cls:=.type "list",dict:=none,data:=.seq row m,slots:=#[] } }:=
   I2.laid (t':=s1.toks) (λb o eb=>Qg _ eb) (ar _) ⟨hz2,row.toList,m,by rw [hrow];exact rv.reverse,by have:=Qh (s1.heap.push (revObj a ((its.toArray.size:Int) - 1))) (o:={ cls:=.type "list",dict:=none,data:=.seq row m,slots:=#[] }) rfl;simpa using this⟩
  have I4:=I3.turned (h':=hp) (t':=k) (it:=s1.heap.objs.size) (λb o hb eb=>by
   by_cases z:b=(s1.heap.push (revObj a ((its.toArray.size:Int) - 1))).objs.size
   ·subst z
    have e2:=Qh (s1.heap.push (revObj a ((its.toArray.size:Int) - 1))) (o:={ cls:=.type "list",dict:=none,data:=.seq row m,slots:=#[] }) rfl
    rw [e2] at eb
    cases eb
    exact at_
   ·refine keep b o hb ?_
    rcases Heap.get?_push_cases eb with ⟨y,_⟩|y
    ·exact Qn y z
    ·exact y) (by rw [ax hne];exact hit) f1 f3 f4 f5
  exact⟨.ref _,_,I4,rfl,q _ hL⟩
end
end Dw
namespace Dw
open PySem PySem.Spec PyProof.Rows L2
section
variable {call:Nat->List D->Option R}{G:Gx}{k:Nat}{X:Cx}{sc:Scope}{N:List Str}
theorem RPs.one {K:Qb}{H:Hp}{F:Fz}{d:D}{vs:List V}(h:RPs K H F [d] vs):∃v,vs=[v]/\RP K H F d v:=by
 obtain⟨v,r,e,h1,h2⟩:=h
 cases h2
 exact⟨v,e,h1⟩
theorem RPs.two {K:Qb}{H:Hp}{F:Fz}{d e:D}{vs:List V}(h:RPs K H F [d,e] vs):∃v w,vs=[v,w]/\RP K H F d v/\RP K H F e w:=by
 obtain⟨v,r,e1,h1,h2⟩:=h
 obtain⟨w,e2,h3⟩:=RPs.one h2
 exact⟨v,w,by rw [e1,e2],h1,h3⟩
theorem RPs.three {K:Qb}{H:Hp}{F:Fz}{d e f:D}{vs:List V}(h:RPs K H F [d,e,f] vs):∃v w u,vs=[v,w,u]/\RP K H F d v/\RP K H F e w/\RP K H F f u:=by
 obtain⟨v,r,e1,h1,h2⟩:=h
 obtain⟨w,u,e2,h3,h4⟩:=RPs.two h2
 exact⟨v,w,u,by rw [e1,e2],h1,h3,h4⟩
variable (X) in
def ji (b:BI) (r:List V->Hp->VK->Prop):Prop:=∀(H:Hp) (F:Fz) (ds:List D) (vs:List V) (z:R) (Q:VK),lK b ds=some z->(∀a,H a=none->¬F a)->RPs X.K H F ds vs->(∀v H' F',Gr H F H' F'->RR X.K H H' F' z v->Q v H')->r vs H Q
theorem qQ3:ji X .len (λxs H Q=>∃p ys,xs=[.ref p]/\(SqL X.K H p ys∨SqT X.K H p ys)/\Q (.int ys.length) H):=by
 intro H F ds vs z Q hz dom hs kk
 match ds,hz,hs with
 | [.tup xs],hz,hs =>
  cases hz
  obtain⟨v,rfl,hv⟩:=RPs.one hs
  obtain⟨p,ws,rfl,h1,h2⟩:=hv.tup
  exact⟨p,ws,rfl,.inr h1,by rw [RDs.length h2];exact kk _ H F (Gr.refl dom) rfl⟩
 | [.lst xs],hz,hs =>
  cases hz
  obtain⟨v,rfl,hv⟩:=RPs.one hs
  obtain⟨p,ws,rfl,h1,h2⟩:=hv.lst
  exact⟨p,ws,rfl,.inl h1,by rw [RDs.length h2];exact kk _ H F (Gr.refl dom) rfl⟩
theorem qQ1:ji X .min (λxs H Q=>(∃i j,xs=[.int i,.int j]/\Q (.int (if j<i then j else i)) H)∨∃(p:Addr) (is:List Int) (m:Int),xs=[.ref p]/\SqL X.K H p (is.map V.int)/\j6 is=some m/\Q (.int m) H):=by
 intro H F ds vs z Q hz dom hs kk
 match ds,hz,hs with
 | [.int i,.int j],hz,hs =>
  cases hz
  obtain⟨v,w,rfl,hv,hw⟩:=RPs.two hs
  exact .inl ⟨i,j,by rw [hv.int,hw.int],kk _ H F (Gr.refl dom) rfl⟩
 | [.lst xs],hz,hs =>
  have hz:kH xs=some z:=hz
  unfold kH at hz
  split at hz
  ·rename_i is e1
   obtain⟨m,e3,e4⟩:=yad.mp hz
   subst e4
   obtain⟨v,rfl,hv⟩:=RPs.one hs
   obtain⟨p,ws,rfl,h1,h2⟩:=hv.lst
   rw [RDs.ints h2 e1] at h1
   exact .inr ⟨p,is,m,rfl,h1,e3,kk _ H F (Gr.refl dom) rfl⟩
  ·cases hz
theorem qQ2:ji X .max (λxs H Q=>((∃i j,xs=[.int i,.int j]/\Q (.int (if j > i then j else i)) H)∨∃i j k,xs=[.int i,.int j,.int k]/\Q (.int (if k > (if j > i then j else i) then k else (if j > i then j else i))) H)∨∃(p:Addr) (is:List Int) (m:Int),xs=[.ref p]/\SqL X.K H p (is.map V.int)/\j3 is=some m/\Q (.int m) H):=by
 intro H F ds vs z Q hz dom hs kk
 match ds,hz,hs with
 | [.int i,.int j],hz,hs =>
  cases hz
  obtain⟨v,w,rfl,hv,hw⟩:=RPs.two hs
  exact .inl (.inl ⟨i,j,by rw [hv.int,hw.int],kk _ H F (Gr.refl dom) rfl⟩)
 | [.int i,.int j,.int l],hz,hs =>
  cases hz
  obtain⟨v,w,u,rfl,hv,hw,hu⟩:=RPs.three hs
  exact .inl (.inr ⟨i,j,l,by rw [hv.int,hw.int,hu.int],kk _ H F (Gr.refl dom) rfl⟩)
 | [.lst xs],hz,hs =>
  obtain⟨is,e1,e2⟩:=af hz
  obtain⟨m,e3,e4⟩:=yad.mp e2
  subst e4
  obtain⟨v,rfl,hv⟩:=RPs.one hs
  obtain⟨p,ws,rfl,h1,h2⟩:=hv.lst
  rw [RDs.ints h2 e1] at h1
  exact .inr ⟨p,is,m,rfl,h1,e3,kk _ H F (Gr.refl dom) rfl⟩
theorem qQ0:ji X .sum (λxs H Q=>∃(p:Addr) (is:List Int),xs=[.ref p]/\SqL X.K H p (is.map V.int)/\Q (.int is.sum) H):=by
 intro H F ds vs z Q hz dom hs kk
 match ds,hz,hs with
 | [.lst xs],hz,hs =>
  obtain⟨is,e1,e2⟩:=yad.mp hz
  subst e2
  obtain⟨v,rfl,hv⟩:=RPs.one hs
  obtain⟨p,ws,rfl,h1,h2⟩:=hv.lst
  rw [RDs.ints h2 e1] at h1
  exact⟨p,is,rfl,h1,kk _ H F (Gr.refl dom) rfl⟩
theorem RDs.of_tps {K:Qb}{H:Hp}{F:Fz}:∀{ts:List (List Int)}{vs:List V},TpV K H vs ts->RDs K H F (ts.map λt=>.tup (t.map .int)) vs
 | [],[],_=>rfl
 | t::ts,v::vs,⟨⟨a,e,q⟩,h⟩=>⟨v,vs,rfl,⟨a,_,e,q,RDs.of_ints t⟩,RDs.of_tps h⟩
theorem RDs.tps {K:Qb}{H:Hp}{F:Fz}:∀{ds:List D}{vs:List V}{ts:List (List Int)},RDs K H F ds vs->k7 ds=some ts->TpV K H vs ts
 | [],vs,ts,h,e=>by cases h;cases e;trivial
 | d::ds,vs,ts,h,e=>by
  obtain⟨v,r,rfl,h1,h2⟩:=h
  cases d<;>first|cases e|skip
  obtain⟨is,e1,e2⟩:=af e
  obtain⟨rs,e3,rfl⟩:=yad.mp e2
  obtain⟨p,ws,rfl,g1,g2⟩:=h1
  rw [RDs.ints g2 e1] at g1
  exact⟨⟨p,rfl,g1⟩,RDs.tps h2 e3⟩
theorem qJg:ji X .sorted (λxs H Q=>(∃(p:Addr) (is:List Int),xs=[.ref p]/\(SqL X.K H p (is.map V.int)∨SqT X.K H p (is.map V.int))/\is.length<64/\∀l,H l=none->Q (.ref l) (av H l (.lst ((gK is).map V.int)))) ∨
  ∃(p:Addr) (vs:List V) (is:List (List Int)),xs=[.ref p]/\SqL X.K H p vs/\TpV X.K H vs is/\(∀t∈is,t≠[])/\∀l ws,H l=none->TpV X.K H ws (gM is)->Q (.ref l) (av H l (.lst ws))):=by
 intro H F ds vs z Q hz dom hs kk
 match ds,hz,hs with
 | [.lst xs],hz,hs =>
  obtain⟨v,rfl,hv⟩:=RPs.one hs
  obtain⟨p,ws,rfl,h1,h2⟩:=hv.lst
  have hz':jF xs=some z:=hz
  unfold jF at hz'
  split at hz'
  ·rename_i is e1
   obtain⟨h64,rfl⟩:=cQ hz'
   rw [RDs.ints h2 e1] at h1
   refine .inl ⟨p,is,rfl,.inl h1,h64,λl hl=>?_⟩
   obtain⟨g,rr⟩:=iu dom hl (RDs.of_ints (gK is))
   exact kk _ _ _ g rr
  ·obtain⟨is,e1,e2⟩:=af hz'
   obtain⟨h64,rfl⟩:=cQ e2
   have hh:=RDs.tps h2 e1
   refine .inr ⟨p,ws,is,rfl,h1,hh,h64,λl us hl hu=>?_⟩
   obtain⟨g,rr⟩:=iu dom hl (RDs.of_tps hu)
   exact kk _ _ _ g rr
 | [.tup xs],hz,hs =>
  obtain⟨is,e1,e2⟩:=af hz
  obtain⟨h64,rfl⟩:=cQ e2
  obtain⟨v,rfl,hv⟩:=RPs.one hs
  obtain⟨p,ws,rfl,h1,h2⟩:=hv.tup
  rw [RDs.ints h2 e1] at h1
  refine .inl ⟨p,is,rfl,.inr h1,h64,λl hl=>?_⟩
  obtain⟨g,rr⟩:=iu dom hl (RDs.of_ints (gK is))
  exact kk _ _ _ g rr
theorem qLb:ji X .tuple (λxs H Q=>∃p ys,xs=[.ref p]/\((SqL X.K H p ys/\∀l,H l=none->Q (.ref l) (av H l (.tup ys)))∨(SqT X.K H p ys/\Q (.ref p) H))):=by
 intro H F ds vs z Q hz dom hs kk
 match ds,hz,hs with
 | [.lst xs],hz,hs =>
  cases hz
  obtain⟨v,rfl,hv⟩:=RPs.one hs
  obtain⟨p,ws,rfl,h1,h2⟩:=hv.lst
  refine⟨p,ws,rfl,.inl ⟨h1,λl hl=>?_⟩⟩
  obtain⟨g,rr⟩:=ly dom hl h2
  exact kk _ _ _ g rr
 | [.tup xs],hz,hs =>
  cases hz
  obtain⟨v,rfl,hv⟩:=RPs.one hs
  obtain⟨p,ws,rfl,h1,h2⟩:=hv.tup
  exact⟨p,ws,rfl,.inr ⟨h1,kk _ H F (Gr.refl dom) ⟨p,ws,rfl,h1,h2⟩⟩⟩
theorem qOl:ji X .list (λxs H Q=>∃p ys,xs=[.ref p]/\(SqL X.K H p ys∨SqT X.K H p ys)/\∀l,H l=none->Q (.ref l) (av H l (.lst ys))):=by
 intro H F ds vs z Q hz dom hs kk
 match ds,hz,hs with
 | [.lst xs],hz,hs =>
  cases hz
  obtain⟨v,rfl,hv⟩:=RPs.one hs
  obtain⟨p,ws,rfl,h1,h2⟩:=hv.lst
  refine⟨p,ws,rfl,.inl h1,λl hl=>?_⟩
  obtain⟨g,rr⟩:=iu dom hl h2
  exact kk _ _ _ g rr
 | [.tup xs],hz,hs =>
  cases hz
  obtain⟨v,rfl,hv⟩:=RPs.one hs
  obtain⟨p,ws,rfl,h1,h2⟩:=hv.tup
  refine⟨p,ws,rfl,.inr h1,λl hl=>?_⟩
  obtain⟨g,rr⟩:=iu dom hl h2
  exact kk _ _ _ g rr
theorem qQ4:ji X .int (λxs H Q=>(∃i,xs=[.int i]/\Q (.int i) H)∨∃k,xs=[.bl k]/\Q (.int (if k then 1 else 0)) H):=by
 intro H F ds vs z Q hz dom hs kk
 match ds,hz,hs with
 | [.bl b],hz,hs =>
  cases hz
  obtain⟨v,rfl,hv⟩:=RPs.one hs
  exact .inr ⟨b,by rw [hv.bl],kk _ H F (Gr.refl dom) rfl⟩
 | [.int i],hz,hs =>
  cases hz
  obtain⟨v,rfl,hv⟩:=RPs.one hs
  exact .inl ⟨i,by rw [hv.int],kk _ H F (Gr.refl dom) rfl⟩
theorem qQV:Qo (Qa "len")=some (.builtin "len"):=by decide +kernel
theorem qQT:Qo (Qa "min")=some (.builtin "min"):=by decide +kernel
theorem qQU:Qo (Qa "max")=some (.builtin "max"):=by decide +kernel
theorem qQR:Qo (Qa "sum")=some (.builtin "sum"):=by decide +kernel
theorem qJd:Qo (Qa "sorted")=some (.builtin "sorted"):=by decide +kernel
theorem qQW:Qo (Qa "isinstance")=some (.builtin "isinstance"):=by decide +kernel
theorem yV:Qo (Qa "tuple")=some (.type "tuple"):=by decide +kernel
theorem tw:Qo (Qa "list")=some (.type "list"):=by decide +kernel
theorem wV:Qo (Qa "int")=some (.type "int"):=by decide +kernel
theorem qOk:Qo (Qa "bool")=some (.type "bool"):=by decide +kernel
theorem qQS:Qo (Qa "str")=some (.type "str"):=by decide +kernel
theorem ug (h:fN x=true):x≠"__name__"/\(x == ("__debug__":Str))=false:=by
 unfold fN at h
 simp only [aI,bne_iff_ne,ne_eq] at h
 exact⟨h.2,beq_eq_false_iff_ne.mpr h.1.1⟩
theorem gU (h:x=Qa s) (hs:s∈["len","abs","min","max","sum","all","tuple","list","int","bool","str","isinstance","range","zip","reversed","sorted","enumerate","any"]):x∈bQ:=by
 subst h
 exact yaN.mpr ⟨s,hs,rfl⟩
theorem qHz (g:XG call G k X sc N) (hb:rB x es.length=some b) (hd:G.defs.lookup x=none) (hg:bt sc x=true) (hp:fN x=true) (hn:es.all dz=true) (h:ja call X es cs) :
  SndE call X (.Call (.Name x p) es [] pos) (.bi b cs):=by
 obtain⟨h1,h2⟩:=ug hp
 have gx:=g.gl x hg
 have bl:∀s:String,x=Qa s->s∈["len","abs","min","max","sum","all","tuple","list","int","bool","str","isinstance","range","zip","reversed","sorted","enumerate","any"]->X.mg x=none:=λs e hs=>g.blt x hd (gU e hs)
 have ne:∀{n:Nat},es.length=n+1->es≠[]:=λe z=>by rw [z] at e;cases e
 unfold rB at hb
 split at hb
 ·rename_i e
  split at hb
  ·rename_i hl
   cases hb
   exact mL qEY gx (bl _ e (by decide)) (by rw [e];exact qQV) h1 h2 hn (ne hl) h qQ3
  ·cases hb
 split at hb
 ·rename_i e
  split at hb
  ·rename_i hl
   cases hb
   exact mL ((qI4 g.calm).or (qI5 g.calm)) gx (bl _ e (by decide)) (by rw [e];exact qQT) h1 h2 hn (hl.elim (λz=>ne z) (λz=>ne z)) h qQ1
  ·cases hb
 split at hb
 ·rename_i e
  split at hb
  ·rename_i hl
   cases hb
   exact mL (((qI7 g.calm).or (qI6 g.calm)).or (qI8 g.calm)) gx (bl _ e (by decide)) (by rw [e];exact qQU) h1 h2 hn (hl.elim (λz=>ne z) (λz=>z.elim (λz=>ne z) (λz=>ne z))) h qQ2
  ·cases hb
 split at hb
 ·rename_i e
  split at hb
  ·rename_i hl
   cases hb
   exact mL (qI3 g.calm) gx (bl _ e (by decide)) (by rw [e];exact qQR) h1 h2 hn (ne hl) h qQ0
  ·cases hb
 split at hb
 ·rename_i e
  split at hb
  ·rename_i hl
   cases hb
   exact tR qEi gx (bl _ e (by decide)) (by rw [e];exact yV) h1 h2 hn (ne hl) h qLb
  ·cases hb
 split at hb
 ·rename_i e
  split at hb
  ·rename_i hl
   cases hb
   exact tR qEX gx (bl _ e (by decide)) (by rw [e];exact tw) h1 h2 hn (ne hl) h qOl
  ·cases hb
 split at hb
 ·rename_i e
  split at hb
  ·rename_i hl
   cases hb
   exact tR qJa gx (bl _ e (by decide)) (by rw [e];exact wV) h1 h2 hn (ne hl) h qQ4
  ·cases hb
 unfold wA at hb
 split at hb
 ·rename_i e
  split at hb
  ·rename_i hl
   cases hb
   exact mL (qKh qEW qEV) gx (bl _ e (by decide)) (by rw [e];exact qJd) h1 h2 hn (ne hl) h qJg
  ·cases hb
 ·cases hb
theorem qMv (h:oz t=some ty):Qo t=some (.type (mI ty))/\t∈bQ/\fN t=true:=by
 unfold oz at h
 split at h
 ·rename_i e;subst e;cases h;exact⟨wV,gU rfl (by decide),by decide +kernel⟩
 split at h
 ·rename_i e;subst e;cases h;exact⟨qOk,gU rfl (by decide),by decide +kernel⟩
 split at h
 ·rename_i e;subst e;cases h;exact⟨yV,gU rfl (by decide),by decide +kernel⟩
 split at h
 ·rename_i e;subst e;cases h;exact⟨tw,gU rfl (by decide),by decide +kernel⟩
 split at h
 ·rename_i e;subst e;cases h;exact⟨qQS,gU rfl (by decide),by decide +kernel⟩
 ·cases h
theorem qM2 (g:XG call G k X sc N) (hf:f=Qa "isinstance") (hd:G.defs.lookup f=none) (hdt:G.defs.lookup t=none) (hg:bt sc f=true) (hgt:bt sc t=true) (ht:oz t=some ty) (hn:dz a=true) (h:dU call X a ca) :
  SndE call X (.Call (.Name f p) [a,.Name t p2] [] pos) (.isi ca ty):=by
 obtain⟨b1,b2,b3⟩:=qMv ht
 obtain⟨n1,n2⟩:=ug b3
 have hm:X.mg f=none:=g.blt f hd (gU hf (by decide))
 obtain⟨ta,pa,qa⟩:=h
 have pt:PE X (.Name t p2) (tC (.ty (mI ty))):=qNs (g.gl t hgt) (g.blt t hdt b2) b1 rfl n1 n2
 refine⟨_,zt qI9 (g.gl f hg) hm (by rw [hf];exact qQW) (fL pa (fL pt il) (bZ hn)) (by rw [hf];decide +kernel) (by rw [hf];decide +kernel) (bZ hn) (by rfl),λGe H F Z τ z Q hz hs kk=>?_⟩
 obtain⟨x,ex,ez⟩:=af (by simpa only [qN5] using hz)
 have ez0:nU ty x=some z:=ez
 obtain⟨b,rfl⟩:∃b,z=(false,.bl b):=by cases x<;>first|(cases ez;exact⟨_,rfl⟩)|cases ez
 refine qa Ge H F Z τ x _ ex hs λv H1 F1 g1 rx=>?_
 exact⟨v,x,F1,ty,b,rfl,rx,ez0,kk _ H1 F1 g1 rfl⟩
theorem qFE:Qo (Qa "reversed")=some (.type "reversed"):=by decide +kernel
theorem qJX (g:XG call G k X sc N) (hf:f=Qa "list") (hh:h=Qa "reversed") (hd:G.defs.lookup f=none) (hdh:G.defs.lookup h=none) (hg:bt sc f=true) (hgh:bt sc h=true) (hn:dz e=true) (hs:dU call X e c) :
  SndE call X (.Call (.Name f p) [.Call (.Name h p2) [e] [] pos2] [] pos) (.revL c):=by
 obtain⟨t,pt,qt⟩:=hs
 refine⟨_,qGI g.calm (g.gl f hg) (g.blt f hd (gU hf (by decide))) (by rw [hf];exact tw) (by rw [hf];decide +kernel) (by rw [hf];decide +kernel) (g.gl h hgh) (g.blt h hdh (gU hh (by decide))) (by rw [hh];exact qFE) (by rw [hh];decide +kernel) (by rw [hh];decide +kernel) pt (bZ hn),λGe H F Z τ z Q hz hs kk=>?_⟩
 obtain⟨d,e1,hz⟩:=af (by simpa only [zf] using hz)
 refine qt Ge H F Z τ d _ e1 hs λv H1 F1 g1 rx=>?_
 cases d with
 | lst xs =>
  obtain⟨h1,rfl⟩:=cQ (show (if xs.length<=lim then some (true,D.lst xs.reverse) else none)=some z from hz)
  obtain⟨a,vs,rfl,hl,hr⟩:=rx.lst
  refine⟨a,vs,rfl,hl,λl hl2=>?_⟩
  obtain⟨g4,rr⟩:=iu g1.dom hl2 (RDs.rev hr)
  exact kk _ _ _ (g1.trans g4) (rr.back g1.same)
 | _=>cases hz
theorem qHG (h:rO G sc f as=some a):∃y p2 pos2,as=[.Call (.Name y p2) [a] [] pos2]/\f=Qa "list"/\y=Qa "reversed"/\bt sc y=true/\G.defs.lookup y=none:=by
 unfold rO at h
 split at h
 ·split at h
  ·rename_i hq
   simp only [aI] at hq
   cases h
   exact⟨_,_,_,rfl,by simpa using hq.1.1.1,by simpa using hq.1.1.2,hq.1.2,by simpa using hq.2⟩
  ·cases h
 ·cases h
end
end Dw
namespace Dw
open PySem PySem.Spec PyProof.Rows L2
theorem eH {Z:En}{i:Nat}{o:Option R}(h:i<Z.length):ao (Z.set i o) i=o:=by
 simp [ao,h]
theorem cA (h:i≠j):ao (Z.set i o) j=ao Z j:=by
 simp [ao,bS h]
theorem gk (h:ao Z i=some r):i<Z.length:=by
 by_cases hi:i<Z.length
 ·exact hi
 ·have:Z[i]?=none:=List.getElem?_eq_none (by omega)
  simp [ao,this] at h
section
variable {K:Qb}{G:Gp}{H H1:Hp}{F F1:Fz}{Z:En}{τ:L2.St}{i:Nat}{d:D}{v:V}
theorem SR.bind (s:SR K G H F Z τ) (h:RD K H F d v):SR K G H F (Z.set i (some (false,d))) (τ.set i (some v)):=by
 refine⟨by simp [s.len],s.ent,s.dom,λj e hj=>?_,λj e hj hd=>?_,λj k e e' hj hk hjk=>?_,λj m ks hj=>?_,λp e hp hj=>?_⟩
 ·by_cases hij:i=j
  ·subst hij
   have hl:i<Z.length:=by simpa using gk hj
   rw [eH hl] at hj
   cases hj
   exact⟨v,by rw [kz (by rw [<-s.len];exact hl)],h⟩
  ·rw [cA hij] at hj
   obtain⟨u,h1,h2⟩:=s.val j e hj
   exact⟨u,by rw [bS hij];exact h1,h2⟩
 ·have hij:i≠j:=λz=>by
   subst z
   have hl:i<Z.length:=by simpa using gk hj
   rw [eH hl] at hj
   cases hj
  rw [cA hij] at hj
  obtain⟨a,ds,vs,h1,h2,h3⟩:=s.own j e hj hd
  exact⟨a,ds,vs,h1,by rw [bS hij];exact h2,h3⟩
 ·have nj:∀{j:Nat} {e:D},ao (Z.set i (some (false,d))) j=some (true,e)->i≠j:=λ{j e} hj z=>by
   subst z
   have hl:i<Z.length:=by simpa using gk hj
   rw [eH hl] at hj
   cases hj
  have n1:=nj hj
  have n2:=nj hk
  rw [cA n1] at hj
  rw [cA n2] at hk
  rw [bS n1,bS n2] at hjk
  exact s.sep j k e e' hj hk hjk
 ·have hij:i≠j:=λz=>by
   subst z
   have hl:i<Z.length:=by simpa using gk hj
   rw [eH hl] at hj
   cases hj
  rw [cA hij] at hj
  obtain⟨a,h1,h2⟩:=s.dct j m ks hj
  exact⟨a,by rw [bS hij];exact h1,h2⟩
 ·have hij:i≠0:=λz=>by
   subst z
   have hl:0<Z.length:=by simpa using gk hj
   rw [eH hl] at hj
   cases hj
  rw [cA hij] at hj
  rw [bS hij]
  exact s.pin p e hp hj
theorem SR.skip (s:SR K G H F Z τ) (h:ao Z i=none):SR K G H F Z (τ.set i (some v)):=by
 have ne:∀{j:Nat} {r:R},ao Z j=some r->i≠j:=λ{j r} e z=>by subst z;rw [h] at e;cases e
 refine⟨by simp [s.len],s.ent,s.dom,λj e hj=>?_,λj e hj hd=>?_,λj k e e' hj hk hjk=>?_,λj m ks hj=>?_,λp e hp hj=>?_⟩
 ·obtain⟨u,h1,h2⟩:=s.val j e hj
  exact⟨u,by rw [bS (ne hj)];exact h1,h2⟩
 ·obtain⟨a,ds,vs,h1,h2,h3⟩:=s.own j e hj hd
  exact⟨a,ds,vs,h1,by rw [bS (ne hj)];exact h2,h3⟩
 ·rw [bS (ne hj),bS (ne hk)] at hjk
  exact s.sep j k e e' hj hk hjk
 ·obtain⟨a,h1,h2⟩:=s.dct j m ks hj
  exact⟨a,by rw [bS (ne hj)];exact h1,h2⟩
 ·rw [bS (ne hj)]
  exact s.pin p e hp hj
theorem SR.keep (s:SR K G H F Z τ) (k:Keep H F H1 F1) (ent:Same G'.h H1) (dom:∀a,H1 a=none->¬F1 a)
  (own:∀i d,ao Z i=some (true,d)->jA d=false->∃a ds vs,d=.lst ds/\τ[i]?=some (some (.ref a))/\G' a=none/\¬F1 a/\H1 a=some (.lst vs)/\RDs K H1 F1 ds vs)
  (dct:∀i m ks,ao Z i=some (true,.dct m ks)->∃a,τ[i]?=some (some (.ref a))/\¬F1 a/\H1 a=some (.dK (dk ks))/\(m=true->G' a=none))
  (pin:∀p d,G'.pin=some p->ao Z 0=some (true,d)->τ[0]?=some (some (.ref p))):SR K G' H1 F1 Z τ:=
 ⟨s.len,ent,dom,λi d e=>let ⟨v,h1,h2⟩:=s.val i d e;⟨v,h1,RD.mono k h2⟩,own,s.sep,dct,pin⟩
theorem Keep.trans (a:Keep H F H1 F1) (b:Keep H1 F1 H2 F2):Keep H F H2 F2:=
 ⟨λp xs h=>b.tups p xs (a.tups p xs h),λp xs f h=>b.lsts p xs (a.lsts p xs f h).1 (a.lsts p xs f h).2,λp C dx fs h=>b.inss p C dx fs (a.inss p C dx fs h),λp o u h=>b.frzs p o u (a.frzs p o u h)⟩
theorem Keep.refl:Keep H F H F:=⟨λ_ _ h=>h,λ_ _ f h=>⟨f,h⟩,λ_ _ _ _ h=>h,λ_ _ _ h=>h⟩
end
section
variable {call:Nat->List D->Option R}{G:Gx}{k:Nat}{X:Cx}{sc:Scope}{N:List Str}
def gL:List Nat->iA
 | []=>rh
 | i::is=>oQ (jG i) (gL is)
def ni (K:Qb):Tg->TG
 | .one i=>jG i
 | .two i j=>ri K 2 (oQ (jG i) (oQ (jG j) rh))
 | .many is=>ri K is.length (gL is)
theorem jM (g:XG call G k X sc N) (h:(sc.names.lookup x == some .local||sc.names.lookup x == some .cell)=true):lP X.env.scope x/\(X.fn x=true∨X.env.scope.names.lookup x=some .local):=g.loc x h
theorem qPb (g:XG call G k X sc N) (h:fg sc N tg=some t):PG X tg (ni X.K t):=by
 unfold fg at h
 split at h
 ·rename_i x pos
  split at h
  ·rename_i hx
   cases hi:bF N x with
   | none=>rw [hi] at h;cases h
   | some i =>
    rw [hi] at h
    cases h
    obtain⟨l1,l2⟩:=jM g hx
    exact pS (by rw [g.hN];exact g.nd) (by rw [g.hN];exact iv hi) l1 l2
  ·cases h
 ·rename_i x p y p' kk pos
  split at h
  ·rename_i hx
   rw [aI,aI] at hx
   obtain⟨⟨hx,hy⟩,hne⟩:=hx
   cases hi:bF N x with
   | none=>rw [hi] at h;cases h
   | some i =>
    cases hj:bF N y with
    | none=>rw [hi,hj] at h;cases h
    | some j =>
     rw [hi,hj] at h
     cases h
     obtain⟨l1,l2⟩:=jM g hx
     obtain⟨m1,m2⟩:=jM g hy
     exact k0 g.calm (tZ (pS (by rw [g.hN];exact g.nd) (by rw [g.hN];exact iv hi) l1 l2) (tZ (pS (by rw [g.hN];exact g.nd) (by rw [g.hN];exact iv hj) m1 m2) yJ))
  ·cases h
 ·cases h
theorem yE {K:Qb}{Ge:Gp}{H:Hp}{F:Fz}{Z Z':En}{τ:L2.St}{t:Tg}{d:D}{v:V}{Q:L2.St->Hp->Prop}(hm:∀is,t≠.many is) (s:SR K Ge H F Z τ) (hb:cN Z t d=some Z') (hv:RD K H F d v)
  (h:∀τ',SR K Ge H F Z' τ'->(∀Z0:En,SR K Ge H F Z0 τ->(∀i,(t=.one i∨∃j,t=.two i j∨t=.two j i)->ao Z0 i=none)->SR K Ge H F Z0 τ')->Q τ' H):ni K t v τ H Q:=by
 cases t with
 | one i =>
  cases hb
  exact h _ (s.bind hv) fun Z0 s0 hn=>s0.skip (hn i (.inl rfl))
 | two i j =>
  unfold cN at hb
  split at hb
  ·rename_i heq;cases heq
  ·rename_i i' j' x y heq
   cases heq
   cases hb
   obtain⟨a,vs,rfl,hs,hr⟩:=hv
   obtain⟨v1,r,rfl,h1,w,r2,e2,h2,h3⟩:=hr
   have h3:r2=[]:=h3
   subst h3
   subst e2
   exact⟨a,[v1,w],rfl,hs,rfl,v1,[w],rfl,w,[],rfl,rfl,h _ ((s.bind h1).bind h2) fun Z0 s0 hn=>(s0.skip (hn i (.inr ⟨j,.inl rfl⟩))).skip (hn j (.inr ⟨i,.inr rfl⟩))⟩
  ·rename_i heq;cases heq
  ·cases hb
 | many is=>exact Qn rfl (hm is)
theorem lH {K:Qb}{Ge:Gp}{H:Hp}{F:Fz}{Q:L2.St->Hp->Prop}:∀{is:List Nat}{ds:List D}{vs:List V}{Z Z':En}{τ:L2.St},SR K Ge H F Z τ->fq Z is ds=some Z'->RDs K H F ds vs->(∀τ',SR K Ge H F Z' τ'->Q τ' H)->gL is vs τ H Q
 | [],ds,vs,Z,Z',τ,s,hb,hv,h=>by
  cases ds with
  | nil=>cases hb;have hv:vs=[]:=hv;exact⟨hv,h _ s⟩
  | cons d r=>cases hb
 | i::is,ds,vs,Z,Z',τ,s,hb,hv,h=>by
  cases ds with
  | nil=>cases hb
  | cons d r =>
   obtain⟨v,w,rfl,h1,h2⟩:=hv
   exact⟨v,w,rfl,lH (s.bind h1) hb h2 h⟩
theorem j0:∀{is:List Nat}{ds:List D}{Z Z':En},fq Z is ds=some Z'->ds.length=is.length
 | [],[],_,_,_=>rfl
 | [],_::_,_,_,h=>by cases h
 | _::_,[],_,_,h=>by cases h
 | i::is,d::ds,Z,Z',h=>by rw [dG,dG,j0 (show fq (Z.set i (some (false,d))) is ds=some Z' from h)]
theorem mV {K:Qb}{Ge:Gp}{H:Hp}{F:Fz}{Z Z':En}{τ:L2.St}{t:Tg}{d:D}{v:V}{Q:L2.St->Hp->Prop}(s:SR K Ge H F Z τ) (hb:cN Z t d=some Z') (hv:RD K H F d v)
  (h:∀τ',SR K Ge H F Z' τ'->Q τ' H):ni K t v τ H Q:=by
 cases t with
 | one i=>exact yE (λ_ z=>nomatch z) s hb hv fun τ' s' _=>h τ' s'
 | two i j=>exact yE (λ_ z=>nomatch z) s hb hv fun τ' s' _=>h τ' s'
 | many is =>
  unfold cN at hb
  split at hb
  ·rename_i heq;cases heq
  ·rename_i heq;cases heq
  ·rename_i is' ds heq
   cases heq
   obtain⟨a,vs,rfl,hs,hr⟩:=hv
   exact⟨a,vs,rfl,hs,by rw [RDs.length hr];exact j0 hb,lH s hb hr h⟩
  ·cases hb
theorem qSc (g:XG call G k X sc N) (h:dQ sc N e=some i):PG X e (jG i)/\∃x p,e=.Name x p:=by
 unfold dQ at h
 split at h
 ·rename_i x pos
  split at h
  ·rename_i hx
   obtain⟨l1,l2⟩:=jM g hx
   exact⟨pS (by rw [g.hN];exact g.nd) (by rw [g.hN];exact iv h) l1 l2,x,pos,rfl⟩
  ·cases h
 ·cases h
theorem pF (g:XG call G k X sc N):∀{es:List Expr}{is:List Nat},cm (dQ sc N) es=some is->lN X es (gL is)/\(assignEach es X.env).length=is.length/\(assignEach es X.env).findIdx? (·.1)=none
 | [],is,h=>by cases h;exact⟨yJ,rfl,rfl⟩
 | e::es,is,h=>by
  unfold cm at h
  cases hx:dQ sc N e with
  | none=>rw [hx] at h;cases h
  | some i =>
   rw [hx] at h
   cases hy:cm (dQ sc N) es with
   | none=>simp only [bL] at h;rw [hy] at h;cases h
   | some js =>
    simp only [bL] at h
    rw [hy] at h
    cases h
    obtain⟨p1,x,p,rfl⟩:=qSc g hx
    obtain⟨q1,q2,q3⟩:=pF g hy
    refine⟨tZ p1 q1 rfl,?_,?_⟩
    ·show (assignEach es X.env).length+1=_
     rw [q2];rfl
    ·show List.findIdx? _ ((false,_)::assignEach es X.env)=none
     rw [List.findIdx?_cons,q3];rfl
theorem qMB (h:fg sc N tg=some t):∀is,t≠.many is:=by
 intro is z
 subst z
 unfold fg at h
 split at h
 ·split at h
  ·rename_i x _ _;cases hx:bF N x<;>(rw [hx] at h;cases h)
  ·cases h
 ·split at h
  ·rename_i x _ y _ _ _ _;cases hx:bF N x<;>rw [hx] at h<;>first|cases h|(cases hy:bF N y<;>(rw [hy] at h;cases h))
  ·cases h
 ·cases h
theorem sY (g:XG call G k X sc N) (h:fe sc N tg=some t):PG X tg (ni X.K t):=by
 unfold fe at h
 cases ht:fg sc N tg with
 | some t' =>
  rw [ht] at h
  cases h
  exact qPb g ht
 | none =>
  rw [ht] at h
  cases tg with
  | Tuple es kk pos =>
   have h:(cm (dQ sc N) es).map Tg.many=some t:=h
   cases hx:cm (dQ sc N) es with
   | none=>rw [hx] at h;cases h
   | some is =>
    rw [hx] at h
    cases h
    obtain⟨q1,q2,q3⟩:=pF g hx
    exact k0 g.calm q1 q2 q3
  | _=>cases h
end
def ItOk (K:Qb) (J:It) (H:Hp) (F:Fz) (its:List D):Prop:=∀H' F',Keep H F H' F'->(∀a,H' a=none->¬F' a) ->
 (∀i d,its[i]?=some d->J.go i H'/\∀x H3,J.yld i H' x H3->∃F3,Gr H' F' H3 F3/\RD K H3 F3 d x)/\J.stop its.length H'
def oC (K:Qb) (J:It) (H:Hp) (F:Fz) (its:List D):Prop:=∀H' F',Gr H F H' F' ->
 (∀i d,its[i]?=some d->J.go i H'/\∀x H3,J.yld i H' x H3->∃F3,Gr H' F' H3 F3/\RD K H3 F3 d x)/\J.stop its.length H'
theorem ItOk.g {K:Qb}{J:It}{H:Hp}{F:Fz}{its:List D}(h:ItOk K J H F its):oC K J H F its:=λH' F' g=>h H' F' g.keep g.dom
theorem qQt {K:Qb}{H:Hp}{F:Fz}{a:Addr}{ds:List D}{vs:List V}(h:SqL K H a vs) (r:RDs K H F ds vs):oC K (qz K a) H F ds:=by
 intro H' F' g
 have h':SqL K H' a vs:=h.elim (λz=>.inl (sW g.same z)) .inr
 have r':=RDs.mono g.keep r
 have hl:=RDs.length r'
 refine⟨λi d hd=>?_,⟨vs,h',by omega⟩⟩
 obtain⟨v,e1,e2⟩:=RDs.get r' hd
 refine⟨⟨vs,v,h',e1⟩,λx H3 y=>?_⟩
 obtain⟨rfl,y⟩:=y
 have:=y vs h'
 rw [e1] at this
 cases this
 exact⟨F',Gr.refl g.dom,e2⟩
theorem qNW {K:Qb}{H:Hp}{F:Fz}{a:Addr}{ds:List D}{vs:List V}(h:LsR K H F a vs) (r:RDs K H F ds vs):ItOk K (qz K a) H F ds:=by
 intro H' F' k dom
 have h':LsR K H' F' a vs:=h.elim (λz=>.inl (k.lsts _ _ z.1 z.2)) .inr
 have r':=RDs.mono k r
 have hl:=RDs.length r'
 refine⟨λi d hd=>?_,⟨vs,h'.sq,by omega⟩⟩
 obtain⟨v,e1,e2⟩:=RDs.get r' hd
 refine⟨⟨vs,v,h'.sq,e1⟩,λx H3 y=>?_⟩
 obtain⟨rfl,y⟩:=y
 have:=y vs h'.sq
 rw [e1] at this
 cases this
 exact⟨F',Gr.refl dom,e2⟩
theorem xl {K:Qb}{H:Hp}{F:Fz}{a:Addr}{ds:List D}{vs:List V}(h:SqT K H a vs) (r:RDs K H F ds vs):ItOk K (uS K a) H F ds:=by
 intro H' F' k dom
 have h':SqT K H' a vs:=h.elim (λz=>.inl (k.tups _ _ z)) .inr
 have r':=RDs.mono k r
 have hl:=RDs.length r'
 refine⟨λi d hd=>?_,⟨vs,h',by omega⟩⟩
 obtain⟨v,e1,e2⟩:=RDs.get r' hd
 refine⟨⟨vs,v,h',e1⟩,λx H3 y=>?_⟩
 obtain⟨rfl,y⟩:=y
 have:=y vs h'
 rw [e1] at this
 cases this
 exact⟨F',Gr.refl dom,e2⟩
theorem qQu {K:Qb}{H:Hp}{F:Fz}(lo:Int) (n:Nat):ItOk K (qx lo n) H F ((List.range n).map λi=>.int (lo+(i:Nat))):=by
 intro H' F' k dom
 refine⟨λi d hd=>?_,?_⟩
 ·rw [cu] at hd
  cases q:(List.range n)[i]? with
  | none=>rw [q] at hd;cases hd
  | some j =>
   rw [q] at hd
   obtain⟨hl,ej⟩:=yao.mp q
   simp at hl ej
   subst ej
   cases hd
   refine⟨hl,λx H3 y=>?_⟩
   obtain⟨rfl,rfl⟩:=y
   exact⟨F',Gr.refl dom,rfl⟩
 ·show n<=_
  simp
theorem x9 {K:Qb}{H:Hp}{F:Fz}(lo st:Int) (n:Nat):ItOk K (kj lo st n) H F ((List.range n).map λi=>.int (lo+(i:Nat) * st)):=by
 intro H' F' k dom
 refine⟨λi d hd=>?_,?_⟩
 ·rw [cu] at hd
  cases q:(List.range n)[i]? with
  | none=>rw [q] at hd;cases hd
  | some j =>
   rw [q] at hd
   obtain⟨hl,ej⟩:=yao.mp q
   simp at hl ej
   subst ej
   cases hd
   refine⟨hl,λx H3 y=>?_⟩
   obtain⟨rfl,rfl⟩:=y
   exact⟨F',Gr.refl dom,rfl⟩
 ·show n<=_
  simp
end Dw
namespace Dw
open PySem PySem.Spec PyProof.Rows L2
section
variable {prog:Program}{w:World}{A:Around}{E:Value->Shared->Prop}{s:Shared}
theorem qNH (hp:s.heap.IsTupleIter p t k) (ht:s.heap.IsTuple t its) (hy:its[k]?=some y)
  (q:∀h1,h1.IsTupleIter p t (k+1)->Heap.SameBut p s.heap h1->Q y { s with heap:=h1 }):wpAny (model prog w) A (Builtin.SmallTypes.nextOf (.ref p)) Q E s:=by
 obtain⟨b,b1,b2,b3⟩:=id hp;obtain⟨c,c1,_,n1,c3⟩:=ht;unfold Builtin.SmallTypes.nextOf
 refine Qc (wpAny_callSpecial?_slot (name:=Qa "__next__") hp.typeIs F.slot_tuple_iterator_next (wpAny_call_entry F.slot_tuple_iterator_next hp.typeIs F.entry_tuple_iterator_next ?_ (F.args_tuple_iterator_next_1 _)))
 show wpAny _ _ (field (.ref p) 0 >>= _) _ _ s
 refine Qc (Qf b1 b3 (x:=.ref t) rfl ?_);show wpAny _ _ (if (Value.ref t == Value.none)=true then _ else _) _ _ s
 rw [Qm (show ¬((Value.ref t == Value.none)=true) from fZ)];show wpAny _ _ (field (.ref p) 1 >>= _) _ _ s
 refine Qc (Qf b1 b3 (x:=.int k 0) rfl ?_);show wpAny _ _ (seqItems? (.ref t) >>= _) _ _ s
 refine Qc (wpAny_seqItems c1 c3 ?_);simp only [hy,ma]
 refine Qc (wpAny_setField b1 b3 (by simp) (Qd ⟨y,rfl,Qd (q _ ?_ (Heap.SameBut.update ..))⟩))
 exact⟨_,Heap.get?_update_self _ b1 (Obj.isFreed_of_fields (Obj.data_mapFields b3 _)),(Obj.cls_mapFields ..).trans b2,by (rw [Obj.data_mapFields b3];simp [rawInt])⟩
theorem qP0 (hh:A.handled=none) (hp:s.heap.IsTupleIter p t k) (ht:s.heap.IsTuple t its) (hy:its[k]?=none)
  (q:∀h1 e,Heap.ExtBut p s.heap h1->(∃o,h1.get? e=some o/\o.cls=.type "StopIteration")->E (.ref e) { s with heap:=h1 }):wpAny (model prog w) A (Builtin.SmallTypes.nextOf (.ref p)) Q E s:=by
 obtain⟨b,b1,b2,b3⟩:=id hp;obtain⟨c,c1,_,n1,c3⟩:=ht;unfold Builtin.SmallTypes.nextOf
 refine Qc (wpAny_callSpecial?_slot (name:=Qa "__next__") hp.typeIs F.slot_tuple_iterator_next (wpAny_call_entry F.slot_tuple_iterator_next hp.typeIs F.entry_tuple_iterator_next ?_ (F.args_tuple_iterator_next_1 _)))
 show wpAny _ _ (field (.ref p) 0 >>= _) _ _ s
 refine Qc (Qf b1 b3 (x:=.ref t) rfl ?_);show wpAny _ _ (if (Value.ref t == Value.none)=true then _ else _) _ _ s
 rw [Qm (show ¬((Value.ref t == Value.none)=true) from fZ)];show wpAny _ _ (field (.ref p) 1 >>= _) _ _ s
 refine Qc (Qf b1 b3 (x:=.int k 0) rfl ?_);show wpAny _ _ (seqItems? (.ref t) >>= _) _ _ s
 refine Qc (wpAny_seqItems c1 c3 ?_);simp only [hy,ma]
 refine Qc (wpAny_rule (Qc (wpAny_setField b1 b3 (by simp) ?_)));show wpAny _ _ (newExc (.type "StopIteration") [] >>= _) _ _ _
 refine Qc ?_;simp only [newExc,newTuple];refine Qc (wpAny_newObj_type ?_ (by size_fits))
 refine Qc (m:=firstArgMember _ _) (wpAny_of_eq (a:=Value.none) (by first|rfl|(simp only [firstArgMember];rfl)) ?_);refine wpAny_newObj_type ?_ (by size_fits)
 simp only [raiseNew];refine Qc (wpAny_handled ?_);first|rw [show A.in1.handled=none from hh]|rw [hh]
 refine Qc (Qd (wpAny_throw ?_));exact q _ _ (((Heap.SameBut.update ..).extBut.push _).push _) ⟨_,Qh _ rfl,rfl⟩
theorem qNK (hp:s.heap.IsListIter p t k) (ht:s.heap.IsList t its) (hy:its[k]?=some y)
  (q:∀h1,h1.IsListIter p t (k+1)->Heap.SameBut p s.heap h1->Q y { s with heap:=h1 }):wpAny (model prog w) A (Builtin.SmallTypes.nextOf (.ref p)) Q E s:=by
 obtain⟨b,b1,b2,b3⟩:=id hp;obtain⟨c,c1,_,n1,c3⟩:=ht;unfold Builtin.SmallTypes.nextOf
 refine Qc (wpAny_callSpecial?_slot (name:=Qa "__next__") hp.typeIs nJ (wpAny_call_entry nJ hp.typeIs PySem.entry_listiter_next ?_ (PySem.args_listiter_next _)))
 show wpAny _ _ (field (.ref p) 0 >>= _) _ _ s
 refine Qc (Qf b1 b3 (x:=.ref t) rfl ?_);show wpAny _ _ (if (Value.ref t == Value.none)=true then _ else _) _ _ s
 rw [Qm (show ¬((Value.ref t == Value.none)=true) from fZ)];show wpAny _ _ (field (.ref p) 1 >>= _) _ _ s
 refine Qc (Qf b1 b3 (x:=.int k 0) rfl ?_);show wpAny _ _ (seqItems? (.ref t) >>= _) _ _ s
 refine Qc (wpAny_seqItems c1 c3 ?_);simp only [hy,ma]
 refine Qc (wpAny_setField b1 b3 (by simp) (Qd ⟨y,rfl,Qd (q _ ?_ (Heap.SameBut.update ..))⟩))
 exact⟨_,Heap.get?_update_self _ b1 (Obj.isFreed_of_fields (Obj.data_mapFields b3 _)),(Obj.cls_mapFields ..).trans b2,by (rw [Obj.data_mapFields b3];simp [rawInt])⟩
theorem qP4 (hh:A.handled=none) (hp:s.heap.IsListIter p t k) (ht:s.heap.IsList t its) (hy:its[k]?=none)
  (q:∀h1 e,Heap.ExtBut p s.heap h1->(∃o,h1.get? e=some o/\o.cls=.type "StopIteration")->E (.ref e) { s with heap:=h1 }):wpAny (model prog w) A (Builtin.SmallTypes.nextOf (.ref p)) Q E s:=by
 obtain⟨b,b1,b2,b3⟩:=id hp;obtain⟨c,c1,_,n1,c3⟩:=ht;unfold Builtin.SmallTypes.nextOf
 refine Qc (wpAny_callSpecial?_slot (name:=Qa "__next__") hp.typeIs nJ (wpAny_call_entry nJ hp.typeIs PySem.entry_listiter_next ?_ (PySem.args_listiter_next _)))
 show wpAny _ _ (field (.ref p) 0 >>= _) _ _ s
 refine Qc (Qf b1 b3 (x:=.ref t) rfl ?_);show wpAny _ _ (if (Value.ref t == Value.none)=true then _ else _) _ _ s
 rw [Qm (show ¬((Value.ref t == Value.none)=true) from fZ)];show wpAny _ _ (field (.ref p) 1 >>= _) _ _ s
 refine Qc (Qf b1 b3 (x:=.int k 0) rfl ?_);show wpAny _ _ (seqItems? (.ref t) >>= _) _ _ s
 refine Qc (wpAny_seqItems c1 c3 ?_);simp only [hy,ma]
 refine Qc (wpAny_rule (Qc (wpAny_setField b1 b3 (by simp) ?_)));show wpAny _ _ (newExc (.type "StopIteration") [] >>= _) _ _ _
 refine Qc ?_;simp only [newExc,newTuple];refine Qc (wpAny_newObj_type ?_ (by size_fits))
 refine Qc (m:=firstArgMember _ _) (wpAny_of_eq (a:=Value.none) (by first|rfl|(simp only [firstArgMember];rfl)) ?_);refine wpAny_newObj_type ?_ (by size_fits)
 simp only [raiseNew];refine Qc (wpAny_handled ?_);first|rw [show A.in1.handled=none from hh]|rw [hh]
 refine Qc (Qd (wpAny_throw ?_));exact q _ _ (((Heap.SameBut.update ..).extBut.push _).push _) ⟨_,Qh _ rfl,rfl⟩
def SqH:Bool->Heap->Addr->Array Value->Prop
 | true,h,t,its=>h.IsList t its
 | false,h,t,its=>h.IsTuple t its
def SqI:Bool->Heap->Addr->Addr->Nat->Prop
 | true,h,p,t,k=>h.IsListIter p t k
 | false,h,p,t,k=>h.IsTupleIter p t k
theorem SqI.extBut (x:SqI kd h a t i) (hs:Heap.ExtBut b h h') (hab:a≠b):SqI kd h' a t i:=by
 cases kd with
 | true=>exact Heap.IsListIter.extBut x hs hab
 | false=>exact Heap.IsTupleIter.extBut x hs hab
theorem SqI.at (x:SqI kd h a t i) (e:∀o,h.get? a=some o->h'.get? a=some o):SqI kd h' a t i:=by
 cases kd with
 | true=>exact Heap.IsListIter.at x e
 | false=>exact Heap.IsTupleIter.at x e
theorem SqI.rec' (x:SqI kd h a t i):∃o,h.get? a=some o/\∀v,o.data≠.cell v:=by
 cases kd with
 | true=>obtain⟨o,e,c,d⟩:=x;exact⟨o,e,λv r=>by rw [d] at r;cases r⟩
 | false=>obtain⟨o,e,c,d⟩:=x;exact⟨o,e,λv r=>by rw [d] at r;cases r⟩
theorem SqH.but (ht:SqH kd h t its) (hs:Heap.SameBut p h h') (ne:t≠p):SqH kd h' t its:=by
 cases kd with
 | true=>exact Heap.IsList.extBut ht hs.extBut ne
 | false=>exact Heap.IsTuple.extBut ht hs.extBut ne
theorem pR (hp:SqI kd s.heap p t k) (ht:SqH kd s.heap t its) (hy:its[k]?=some y)
  (q:∀h1,SqI kd h1 p t (k+1)->Heap.SameBut p s.heap h1->Q y { s with heap:=h1 }):wpAny (model prog w) A (Builtin.SmallTypes.nextOf (.ref p)) Q E s:=by
 cases kd with
 | true=>exact qNK hp ht hy q
 | false=>exact qNH hp ht hy q
theorem pG (hh:A.handled=none) (hp:SqI kd s.heap p t k) (ht:SqH kd s.heap t its) (hy:its[k]?=none)
  (q:∀h1 e,Heap.ExtBut p s.heap h1->(∃o,h1.get? e=some o/\o.cls=.type "StopIteration")->E (.ref e) { s with heap:=h1 }):wpAny (model prog w) A (Builtin.SmallTypes.nextOf (.ref p)) Q E s:=by
 cases kd with
 | true=>exact qP4 hh hp ht hy q
 | false=>exact qP0 hh hp ht hy q
structure Zp (z a b i j:Addr):Prop where
 az:a≠z
 bz:b≠z
 iz:i≠z
 jz:j≠z
 ab:a≠b
 ai:a≠i
 aj:a≠j
 bi:b≠i
 bj:b≠j
 ij:i≠j
structure Zs (kd ke:Bool) (h:Heap) (z a b i j t u:Addr) (k:Nat):Prop where
 hz:IsZip h z a b .none
 ha:IsPair h a (.ref i) (.ref j)
 hb:∃x y,IsPair h b x y
 hi:SqI kd h i t k
 hj:SqI ke h j u k
theorem qMf (D:Zp z a b i j) (S:Zs kd ke s.heap z a b i j t u k) (ht:SqH kd s.heap t xs) (hu:SqH ke s.heap u ys)
  (nt:t∉[z,a,b,i,j]) (nu:u∉[z,a,b,i,j]) (hx:xs[k]?=some x) (hy:ys[k]?=some y)
  (q:∀h',IsZip h' z a b (rawInt s.heap.objs.size)->(∃x y,IsPair h' b x y)->SqI kd h' i t (k+1)->SqI ke h' j u (k+1)->IsPair h' s.heap.objs.size x y->h'.objs.size=s.heap.objs.size+1 ->
   (∀c o,c∉[z,b,i,j]->s.heap.get? c=some o->h'.get? c=some o)->Q (some (.ref s.heap.objs.size)) { s with heap:=h' }):wpAny (model prog w) A (pyNext (.ref z)) Q E s:=by
 obtain⟨hz,ha,⟨x0,y0,hb⟩,hi,hj⟩:=S
 simp only [yag,d5,or_false,not_or] at nt nu
 obtain⟨tz,ta,tb,ti,tj⟩:=nt
 obtain⟨uz,ua,ub,ui,uj⟩:=nu
 have hT:s.TypeIs (.ref z) "zip":=⟨_,hz,rfl⟩
 unfold pyNext
 refine Qc (wpAny_attempt (wpAny_callSpecial?_slot (name:=Qa "__next__") hT F.slot_zip_next (wpAny_call_entry F.slot_zip_next hT F.entry_zip_next ?_ (F.args_zip_next_1 _))))
 show wpAny _ _ (field (.ref z) 2 >>= _) _ _ _
 refine Qc (Qf hz rfl (x:=.bool false) rfl ?_);show wpAny _ _ (field (.ref z) 3 >>= _) _ _ _
 refine Qc (Qf hz rfl (x:=.ref a) rfl ?_);refine Qc (wpAny_seqItems ha rfl ?_)
 show wpAny _ _ (Builtin.SmallTypes.ownedTupleIsFree (.ref z) >>= _) _ _ _
 refine Qc ?_;unfold Builtin.SmallTypes.ownedTupleIsFree
 refine Qc (Qf hz rfl (x:=.none) rfl (Qd ?_));simp only [if_true]
 refine Qc (wpAny_rule ?_);refine Qc (Qf hz rfl (x:=.ref b) rfl ?_)
 refine Qc (wpAny_setField_rec hz (by simp) λh1 z1 s1=>?_)
 replace z1:IsZip h1 z a b .ellipsis:=z1
 refine Qc ?_
 simp only [nO,List.zipIdx_nil,List.forIn_nil,qF]
 refine Qc (Qc (wpAny_onRaise ?_));show wpAny _ _ (Builtin.SmallTypes.nextOf (.ref i) >>= _) _ _ _
 refine Qc (pR (hi.extBut s1.extBut D.iz) (ht.but s1 tz) hx λh2 i2 s2=>Qd ?_)
 have b2:IsPair h2 b x0 y0:=s2.extBut _ _ D.bi (s1.extBut _ _ D.bz hb)
 refine Qc (wpAny_seqItems b2 rfl ?_)
 refine Qc (wpAny_updateSeq_pair b2 λh3 b3 s3=>?_)
 replace b3:IsPair h3 b x y0:=b3
 refine Qc (wpAny_letGo (Qd ?_));refine Qc (Qc (wpAny_onRaise ?_))
 show wpAny _ _ (Builtin.SmallTypes.nextOf (.ref j) >>= _) _ _ _
 refine Qc (pR (((hj.extBut s1.extBut D.jz).extBut s2.extBut D.ij.symm).extBut s3.extBut D.bj.symm) (((hu.but s1 uz).but s2 ui).but s3 ub) hy λh4 j4 s4=>Qd ?_)
 have b4:IsPair h4 b x y0:=s4.extBut _ _ D.bj b3
 refine Qc (wpAny_seqItems b4 rfl ?_)
 refine Qc (wpAny_updateSeq_pair b4 λh5 b5 s5=>?_)
 replace b5:IsPair h5 b x y:=b5
 refine Qc (wpAny_letGo (Qd (Qd ?_)));refine Qc (wpAny_seqItems b5 rfl ?_)
 refine Qc (wpAny_newTuple ?_)
 have hsz:h5.objs.size=s.heap.objs.size:=by rw [s5.1,s4.1,s3.1,s2.1,s1.1]
 have z5:IsZip h5 z a b .ellipsis:=s5.extBut _ _ D.bz.symm (s4.extBut _ _ D.jz.symm (s3.extBut _ _ D.bz.symm (s2.extBut _ _ D.iz.symm z1)))
 have k5:∀c o,c∉[z,b,i,j]->s.heap.get? c=some o->h5.get? c=some o:=λc o hc e=>by
  simp only [yag,d5,or_false,not_or] at hc
  exact s5.extBut _ _ hc.2.1 (s4.extBut _ _ hc.2.2.2 (s3.extBut _ _ hc.2.1 (s2.extBut _ _ hc.2.2.1 (s1.extBut _ _ hc.1 e))))
 have i5:SqI kd h5 i t (k+1):=((i2.extBut s3.extBut D.bi.symm).extBut s4.extBut D.ij).extBut s5.extBut D.bi.symm
 have j5:SqI ke h5 j u (k+1):=j4.extBut s5.extBut D.bj.symm
 have lz:z<h5.objs.size:=Qi z5
 show wpAny _ _ (Builtin.SmallTypes.ownedTupleHandOut (.ref z) (.ref h5.objs.size) >>= _) _ _ _
 refine Qc ?_;unfold Builtin.SmallTypes.ownedTupleHandOut
 have z6:IsZip (h5.push { cls:=.type "tuple",data:=.seq #[x,y] }) z a b .ellipsis:=Qg _ z5
 refine Qc (wpAny_setField_rec z6 (by simp) λh7 z7 s7=>?_)
 replace z7:IsZip h7 z a b (rawInt h5.objs.size):=z7
 refine wpAny_setField_rec z7 (by simp) λh8 z8 s8=>?_
 replace z8:IsZip h8 z a b (rawInt h5.objs.size):=z8
 have up:∀c o,c≠z->h5.get? c=some o->h8.get? c=some o:=λc o c1 e=>s8.extBut _ _ c1 (s7.extBut _ _ c1 (Qg _ e))
 have t8:IsPair h8 h5.objs.size x y:=s8.extBut _ _ (iD lz) (s7.extBut _ _ (iD lz) (Qh _ rfl))
 have n8:h8.objs.size=h5.objs.size+1:=by rw [s8.1,s7.1,Heap.size_push]
 rw [hsz] at z8 t8 n8
 refine Qd ⟨_,rfl,Qd ?_⟩
 show Q (some (.ref h5.objs.size)) _
 rw [hsz]
 refine q h8 z8 ⟨_,_,up _ _ D.bz b5⟩ (i5.at λo e=>up _ o D.iz e) (j5.at λo e=>up _ o D.jz e) t8 n8 λc o hc e=>up c o (λr=>hc (by simp [r])) (k5 c o hc e)
theorem qMe (hh:A.handled=none) (D:Zp z a b i j) (S:Zs kd ke s.heap z a b i j t u k) (ht:SqH kd s.heap t xs) (hu:SqH ke s.heap u ys)
  (nt:t∉[z,a,b,i,j]) (nu:u∉[z,a,b,i,j]) (hend:xs[k]?=none∨ys[k]?=none)
  (q:∀h',(∀c o,c∉[z,b,i,j]->s.heap.get? c=some o->h'.get? c=some o)->Q none { s with heap:=h' }):wpAny (model prog w) A (pyNext (.ref z)) Q E s:=by
 obtain⟨hz,ha,⟨x0,y0,hb⟩,hi,hj⟩:=S
 simp only [yag,d5,or_false,not_or] at nt nu
 obtain⟨tz,ta,tb,ti,tj⟩:=nt
 obtain⟨uz,ua,ub,ui,uj⟩:=nu
 have hT:s.TypeIs (.ref z) "zip":=⟨_,hz,rfl⟩
 unfold pyNext
 refine Qc (wpAny_attempt (wpAny_callSpecial?_slot (name:=Qa "__next__") hT F.slot_zip_next (wpAny_call_entry F.slot_zip_next hT F.entry_zip_next ?_ (F.args_zip_next_1 _))))
 show wpAny _ _ (field (.ref z) 2 >>= _) _ _ _
 refine Qc (Qf hz rfl (x:=.bool false) rfl ?_);show wpAny _ _ (field (.ref z) 3 >>= _) _ _ _
 refine Qc (Qf hz rfl (x:=.ref a) rfl ?_);refine Qc (wpAny_seqItems ha rfl ?_)
 show wpAny _ _ (Builtin.SmallTypes.ownedTupleIsFree (.ref z) >>= _) _ _ _
 refine Qc ?_;unfold Builtin.SmallTypes.ownedTupleIsFree
 refine Qc (Qf hz rfl (x:=.none) rfl (Qd ?_));simp only [if_true]
 refine Qc (wpAny_rule ?_);refine Qc (Qf hz rfl (x:=.ref b) rfl ?_)
 refine Qc (wpAny_setField_rec hz (by simp) λh1 z1 s1=>?_)
 replace z1:IsZip h1 z a b .ellipsis:=z1
 refine Qc ?_
 simp only [nO,List.zipIdx_nil,List.forIn_nil,qF]
 refine Qc (Qc (wpAny_onRaise ?_));show wpAny _ _ (Builtin.SmallTypes.nextOf (.ref i) >>= _) _ _ _
 cases hx:xs[k]? with
 | none =>
  refine Qc (pG hh (hi.extBut s1.extBut D.iz) (ht.but s1 tz) hx λh2 e s2 he=>?_)
  obtain⟨oe,hoe,hce⟩:=he
  have z2:IsZip h2 z a b .ellipsis:=s2 _ _ D.iz.symm z1
  have ez:e≠z:=λr=>by subst r;rw [z2] at hoe;cases hoe;simp at hce
  refine wpAny_setField_rec z2 (by simp) λh3 _ s3=>Qc (wpAny_isInstance (T:="StopIteration") (b:=true) ⟨oe,s3.extBut _ _ ez hoe,hce⟩ isSubtype_stop (Qd (q _ λc o hc r=>?_)))
  simp only [yag,d5,or_false,not_or] at hc
  exact s3.extBut _ _ hc.1 (s2 _ _ hc.2.2.1 (s1.extBut _ _ hc.1 r))
 | some x =>
  have hy:ys[k]?=none:=by rcases hend with r|r;rw [hx] at r;cases r;exact r
  refine Qc (pR (hi.extBut s1.extBut D.iz) (ht.but s1 tz) hx λh2 i2 s2=>Qd ?_)
  have b2:IsPair h2 b x0 y0:=s2.extBut _ _ D.bi (s1.extBut _ _ D.bz hb)
  refine Qc (wpAny_seqItems b2 rfl ?_)
  refine Qc (wpAny_updateSeq_pair b2 λh3 b3 s3=>?_)
  refine Qc (wpAny_letGo (Qd ?_));refine Qc (Qc (wpAny_onRaise ?_))
  show wpAny _ _ (Builtin.SmallTypes.nextOf (.ref j) >>= _) _ _ _
  refine Qc (pG hh (((hj.extBut s1.extBut D.jz).extBut s2.extBut D.ij.symm).extBut s3.extBut D.bj.symm) (((hu.but s1 uz).but s2 ui).but s3 ub) hy λh4 e s4 he=>?_)
  obtain⟨oe,hoe,hce⟩:=he
  have z4:IsZip h4 z a b .ellipsis:=s4 _ _ D.jz.symm (s3.extBut _ _ D.bz.symm (s2.extBut _ _ D.iz.symm z1))
  have ez:e≠z:=λr=>by subst r;rw [z4] at hoe;cases hoe;simp at hce
  refine wpAny_setField_rec z4 (by simp) λh5 _ s5=>Qc (wpAny_isInstance (T:="StopIteration") (b:=true) ⟨oe,s5.extBut _ _ ez hoe,hce⟩ isSubtype_stop (Qd (q _ λc o hc r=>?_)))
  simp only [yag,d5,or_false,not_or] at hc
  exact s5.extBut _ _ hc.1 (s4 _ _ hc.2.2.2 (s3.extBut _ _ hc.2.1 (s2.extBut _ _ hc.2.2.1 (s1.extBut _ _ hc.1 r))))
end
end Dw
namespace Dw
open PySem PySem.Spec PyProof.Rows L2
section
variable {X:Cx}{pins:List (Addr×Obj)}{Z:L2.St}{H:Hp}{s:Shared}{h':Heap}{fp:List Addr}
theorem wM (I:Inv X pins Z H s) (hf:∀b∈fp,dS X pins H b) (k:∀b o,b∉fp->s.heap.get? b=some o->h'.get? b=some o):Inv X pins Z H { s with heap:=h',toks:=t' }:=by
 have nit:∀b u,H b=some u->b∉fp:=λb u e z=>by have:=(hf b z).1;rw [this] at e;cases e
 refine I.step (g':=s.gens) (d':=s.drawn) (ch:=fp) (λb hb=>?_) (λb o _ _ hc e _=>k b o hc e) (λb o _ _ hc e _=>⟨o.slots,k b o hc e⟩) (λ_ _ _ _ n=>n) (λb o hc e=>⟨o,k b o hc e⟩) (λ_ _ e=>e) (λ_ _ _ e=>e) (λb ps e=>⟨#[],by rw [e];simp⟩) (λm hm=>?_) (λb u e=>?_) I.bare
 ·obtain⟨f0,f1,f2,f3,f4,f5⟩:=hf b hb
  exact⟨f3,f1,f4,f5⟩
 ·obtain⟨o,es,ep,ho,r⟩:=hm
  exact⟨o,es,ep,k _ o (λz=>(hf _ z).2.1 rfl) ho,r⟩
 ·refine (I.hok b u e).stay (λc v hc q=>k c v ?_ q) (λ_ q=>q) (λ_ _ q=>q) λ_ _ _ _ q _=>q
  rcases hc with z|z
  ·rw [z];exact nit b u e
  ·exact nit c _ z
theorem wL (I:Inv X pins Z H s) (hf:∀b∈fp,dS X pins H b) (k:∀b o,b∉fp->s.heap.get? b=some o->h'.get? b=some o) (hT:s.heap.objs.size<=T) (new:ObjOk X.prog X.w (av H T o) h' T o):Inv X pins Z (av H T o) { s with heap:=h',toks:=t' }:=by
 have hn:H T=none:=I.hok.fresh hT
 have neT:∀b ob,s.heap.get? b=some ob->b≠T:=λb ob e=>bK (bG (Qi e) hT)
 have nit:∀b u,H b=some u->b∉fp:=λb u e z=>by have:=(hf b z).1;rw [this] at e;cases e
 refine I.step (g':=s.gens) (d':=s.drawn) (ch:=fp) (λb hb=>?_) (λb o _ _ hc e _=>k b o hc e) (λb o _ _ hc e _=>⟨o.slots,k b o hc e⟩) (λb ob _ e n=>by rw [ax (neT b ob e)];exact n) (λb o hc e=>⟨o,k b o hc e⟩)
  (λb xs e=>by rw [ax (cf e hn)];exact e) (λb ob u e=>by rw [ax (cf e hn)];exact e) (λb ps e=>⟨#[],by rw [ax (cf e hn),e];simp⟩) (λm hm=>?_) (λb u e=>?_) I.bare
 ·obtain⟨f0,f1,f2,f3,f4,f5⟩:=hf b hb
  exact⟨f3,f1,f4,f5⟩
 ·obtain⟨o,es,ep,ho,r⟩:=hm
  exact⟨o,es,ep,k _ o (λz=>(hf _ z).2.1 rfl) ho,r⟩
 ·by_cases hb:b=T
  ·subst hb;rw [dJ] at e;cases e;exact new
  ·rw [ax hb] at e
   refine (I.hok b u e).stay (λc v hc q=>k c v ?_ q) (λc q=>by rw [ax (cf q hn)];exact q) (λc xs q=>by rw [ax (cf q hn)];exact q) λc ob u _ q _=>by rw [ax (cf q hn)];exact q
   rcases hc with z|z
   ·rw [z];exact nit b u e
   ·exact nit c _ z
theorem qP1 (I:Inv X pins Z H s) (hf:∀b∈fp,dS X pins H b) (h:SqT X.K H a xs):a∉fp:=λz=>by
 obtain⟨f0,f1,f2,f3,f4,f5⟩:=hf a z
 rcases h with (h|⟨o,h⟩)|⟨o,its,n,hk,_⟩
 ·rw [f0] at h;cases h
 ·rw [f0] at h;cases h
 ·have hb:=I.ok.mod.kin a o hk
  rcases f3 with q|q
  ·exact I.ok.noex a o hb q
  ·exact Qn (bG (Qi (I.ok.bs a o hb).1) q) (fA _)
end
theorem qNI {s:Shared}{fp:List Addr}(I:Inv X pins Z H s) (hf:∀b∈fp,dS X pins H b) {a:Addr}{xs:List V}(h:SqL X.K H a xs):a∉fp:=λz=>by
 obtain⟨f0,f1,f2,f3,f4,f5⟩:=hf a z
 rcases h with (h|⟨o,h⟩)|⟨o,its,n,hk,_⟩
 ·rw [f0] at h;cases h
 ·rw [f0] at h;cases h
 ·have hb:=I.ok.mod.kin a o hk
  rcases f3 with q|q
  ·exact I.ok.noex a o hb q
  ·exact Qn (bG (Qi (I.ok.bs a o hb).1) q) (fA _)
def SqK:Bool->Qb->Hp->Addr->List V->Prop
 | true,K,H,a,xs=>SqL K H a xs
 | false,K,H,a,xs=>SqT K H a xs
section
variable {X:Cx}{pins:List (Addr×Obj)}{Z:L2.St}{H:Hp}{s:Shared}{fp:List Addr}{a:Addr}{xs ys:List V}{kd:Bool}
theorem SqK.its (I:Inv X pins Z H s) (h:SqK kd X.K H a xs):∃its,Vals xs its/\SqH kd s.heap a its.toArray/\xs.length<=sizeLine:=by
 cases kd with
 | true=>obtain⟨its,r,p,z⟩:=I.list h;exact⟨its,r,p.isList,z⟩
 | false=>obtain⟨its,r,p,z⟩:=I.tuple h;exact⟨its,r,p,z⟩
theorem SqK.nfp (I:Inv X pins Z H s) (hf:∀b∈fp,dS X pins H b) (h:SqK kd X.K H a xs):a∉fp:=by
 cases kd with
 | true=>exact qNI I hf h
 | false=>exact qP1 I hf h
theorem SqK.inj (I:Inv X pins Z H s) (h:SqK kd X.K H a xs) (h':SqK kd X.K H a ys):xs=ys:=by
 cases kd with
 | true=>exact I.list_inj h h'
 | false=>exact I.tuple_inj h h'
end
def uR (kd ke:Bool) (K:Qb) (a b:Addr):It:=
 ⟨λi H=>∃xs ys x y,SqK kd K H a xs/\SqK ke K H b ys/\xs[i]?=some x/\ys[i]?=some y,
  λi H v H'=>∃T x y,H T=none/\v=.ref T/\(∀xs,SqK kd K H a xs->xs[i]?=some x)/\(∀ys,SqK ke K H b ys->ys[i]?=some y)/\H'=av H T (.tup [x,y]),
  λi H=>∃xs ys,SqK kd K H a xs/\SqK ke K H b ys/\(xs.length<=i∨ys.length<=i)⟩
theorem qJB {w:World}{K:Qb}{es:List Expr}{kk:Nat}{pos:Pos}{z p q i j:Addr}(a b:Addr) (D:Zp z p q i j):Turn P w K (.Tuple es kk pos) (uR kd ke K a b) [z,p,q,i,j] z (λk h=>Zs kd ke h z p q i j a b k) where
 mem:=by simp
 obj:=λk h S c hc=>by
  obtain⟨hz,hp,⟨x,y,hq⟩,hi,hj⟩:=S
  simp only [yag,d5,or_false] at hc
  rcases hc with rfl|rfl|rfl|rfl|rfl
  ·exact⟨_,hz,λv r=>by have r':Data.fields _=Data.cell v:=r;cases r'⟩
  ·exact⟨_,hp,λv r=>by have r':Data.seq _ _=Data.cell v:=r;cases r'⟩
  ·exact⟨_,hq,λv r=>by have r':Data.seq _ _=Data.cell v:=r;cases r'⟩
  ·exact hi.rec'
  ·exact hj.rec'
 keep:=λk h h' S kp=>by
  obtain⟨hz,hp,⟨x,y,hq⟩,hi,hj⟩:=S
  exact⟨kp z (by simp) _ hz,kp p (by simp) _ hp,⟨x,y,kp q (by simp) _ hq⟩,hi.at λo e=>kp i (by simp) o e,hj.at λo e=>kp j (by simp) o e⟩
 item:=by
  intro X hP hw hK hc k pins s Z H E I hf S hg
  subst hP hw hK
  obtain⟨xs,ys,x,y,ha,hb,hx,hy⟩:=hg
  obtain⟨i1,r1,p1,z1⟩:=ha.its I
  obtain⟨i2,r2,p2,z2⟩:=hb.its I
  obtain⟨u,hu,ru⟩:=r1.get hx
  obtain⟨v,hv,rv⟩:=r2.get hy
  have na:=ha.nfp I hf
  have nb:=hb.nfp I hf
  refine qMf D S p1 p2 na nb (x:=u) (y:=v) (by simpa using hu) (by simpa using hv) λh' e1 e2 e3 e4 e5 e6 kp=>?_
  refine⟨_,rfl,wpAny_letOwnedTupleGo_zip e1 λh2 f1 f2=>?_⟩
  have ltz:z<s.heap.objs.size:=Qi S.hz
  have nT:s.heap.objs.size≠z:=iD ltz
  have kp2:∀c o,c∉[z,p,q,i,j]->s.heap.get? c=some o->h2.get? c=some o:=λc o hc e=>by
   simp only [yag,d5,or_false,not_or] at hc
   exact f2.extBut _ _ hc.1 (kp c o (by simp [hc]) e)
  have hpp:s.heap.get? p=some _:=S.ha
  have I2:=wL (t':=s.toks) (T:=s.heap.objs.size) (o:=.tup [x,y]) I hf kp2 (ar _) ⟨by show 2<=sizeLine;decide,[u,v],.cons ru (.cons rv .nil),⟨_,f2.extBut _ _ nT e5,rfl,_,rfl⟩⟩
  have hn:H s.heap.objs.size=none:=I.hok.fresh (ar _)
  obtain⟨x1,y1,e2⟩:=e2
  refine⟨.ref s.heap.objs.size,av H s.heap.objs.size (.tup [x,y]),I2,rfl,⟨_,x,y,hn,rfl,λzs hz=>by rw [SqK.inj I hz ha];exact hx,λzs hz=>by rw [SqK.inj I hz hb];exact hy,rfl⟩,
   ⟨f1,f2.extBut _ _ D.az (kp _ _ (by simp [D.az,D.ab,D.ai,D.aj]) S.ha),⟨x1,y1,f2.extBut _ _ D.bz e2⟩,e3.extBut f2.extBut D.iz,e4.extBut f2.extBut D.jz⟩,λc hc=>?_⟩
  have hlt:c<s.heap.objs.size:=by
   obtain⟨hz,hp,⟨x,y,hq⟩,hi,hj⟩:=S
   simp only [yag,d5,or_false] at hc
   rcases hc with rfl|rfl|rfl|rfl|rfl
   ·exact Qi hz
   ·exact Qi hp
   ·exact Qi hq
   ·obtain⟨o,e,_⟩:=hi.rec';exact Qi e
   ·obtain⟨o,e,_⟩:=hj.rec';exact Qi e
  rw [ax (bK hlt)]
  exact (hf c hc).1
 done:=by
  intro X hP hw hK hc k pins s Z H E I hf S hg
  subst hP hw hK
  obtain⟨xs,ys,ha,hb,he⟩:=hg
  obtain⟨i1,r1,p1,z1⟩:=ha.its I
  obtain⟨i2,r2,p2,z2⟩:=hb.its I
  have l1:=r1.length
  have l2:=r2.length
  refine qMe (I.ok.hd hc) D S p1 p2 (ha.nfp I hf) (hb.nfp I hf) (by
   rcases he with r|r
   ·exact .inl (by simp;omega)
   ·exact .inr (by simp;omega)) λh' kp=>⟨rfl,wM (t':=s.toks) I hf λc o hc e=>kp c o (by simp at hc ⊢;simp [hc]) e⟩
 self:=λ_ _ _ _ _ S h=>wpAny_pyIter_zip S.hz h
def SqF:Bool->Qb->Hp->Fz->Addr->List V->Prop
 | true,K,H,F,a,xs=>LsR K H F a xs
 | false,K,H,_,a,xs=>SqT K H a xs
theorem SqF.keep {K:Qb}{H H':Hp}{F F':Fz}{a:Addr}{xs:List V}(h:SqF kd K H F a xs) (k:Keep H F H' F'):SqK kd K H' a xs:=by
 cases kd with
 | true=>exact LsR.sq (h.elim (λz=>.inl (k.lsts _ _ z.1 z.2)) .inr)
 | false=>exact h.elim (λz=>.inl (k.tups _ _ z)) .inr
theorem pD {K:Qb}{H:Hp}{F:Fz}{a b:Addr}{ds es:List D}{vs ws:List V}(ha:SqF kd K H F a vs) (hb:SqF ke K H F b ws) (ra:RDs K H F ds vs) (rb:RDs K H F es ws):ItOk K (uR kd ke K a b) H F (bN ds es):=by
 intro H' F' k dom
 have ha':SqK kd K H' a vs:=ha.keep k
 have hb':SqK ke K H' b ws:=hb.keep k
 have ra':=RDs.mono k ra
 have rb':=RDs.mono k rb
 have la:=RDs.length ra'
 have lb:=RDs.length rb'
 refine⟨λi d hd=>?_,⟨vs,ws,ha',hb',?_⟩⟩
 ·unfold bN at hd
  rw [List.getElem?_zipWith] at hd
  cases h1:ds[i]? with
  | none=>simp [h1] at hd
  | some d1 =>
   cases h2:es[i]? with
   | none=>simp [h1,h2] at hd
   | some d2 =>
    simp [h1,h2] at hd
    subst hd
    obtain⟨v,e1,e2⟩:=RDs.get ra' h1
    obtain⟨w,e3,e4⟩:=RDs.get rb' h2
    refine⟨⟨vs,ws,v,w,ha',hb',e1,e3⟩,λx H3 y=>?_⟩
    obtain⟨T,x1,y1,hT,rfl,q1,q2,rfl⟩:=y
    have:=q1 vs ha'
    rw [e1] at this
    cases this
    have:=q2 ws hb'
    rw [e3] at this
    cases this
    obtain⟨g,rr⟩:=ly (ds:=[d1,d2]) dom hT ⟨v,[w],rfl,e2,w,[],rfl,e4,rfl⟩
    exact⟨F',g,rr⟩
 ·unfold bN
  rw [lU]
  omega
section
variable {prog:Program}{w:World}{A:Around}{E:Value->Shared->Prop}{s:Shared}
noncomputable def AL:Bool->String
 | true=>"list_iterator"
 | false=>"tuple_iterator"
abbrev nE (kd:Bool) (h:Heap) (a:Addr):Heap:=h.push { cls:=.type (AL kd),data:=.fields #[.ref a,.int 0 0] }
abbrev nC (kd ke:Bool) (h:Heap) (a b:Addr):Heap:=(nE kd h a).push { cls:=.type (AL ke),data:=.fields #[.ref b,.int 0 0] }
abbrev nz (kd ke:Bool) (h:Heap) (a b:Addr):Heap:=(nC kd ke h a b).push { cls:=.type "tuple",data:=.seq #[.ref h.objs.size,.ref (nE kd h a).objs.size] }
abbrev ny (kd ke:Bool) (h:Heap) (a b:Addr):Heap:=(nz kd ke h a b).push { cls:=.type "tuple",data:=.seq #[.none,.none] }
abbrev km (kd ke:Bool) (h:Heap) (a b:Addr):Heap:=(ny kd ke h a b).push { cls:=.type "zip",data:=.fields #[.none,.bool false,.bool false,.ref (nC kd ke h a b).objs.size,.ref (nz kd ke h a b).objs.size] }
theorem qJu (kd ke:Bool) (a b:Addr) (xs ys:Array Value):Meets (Builtin.«zip.__new__» ⟨[.type "zip",.ref a,.ref b],[]⟩) (λ_ R s=>SqH kd s.heap a xs/\SqH ke s.heap b ys/\R (.ok (.ret (.ref (ny kd ke s.heap a b).objs.size))) { s with heap:=km kd ke s.heap a b }):=
 .of_wp λprog w A R s h=>by
  obtain⟨hp,g,d,tk,os⟩:=s;obtain⟨h1,h2,h⟩:=h;have hsub:=sub_zip
  cases kd with
  | false =>
   cases ke with
   | false =>
    have H1:Heap.IsTuple (Shared.heap ⟨hp,g,d,tk,os⟩) a xs:=h1
    have H2:Heap.IsTuple (Shared.heap ⟨hp.push { cls:=.type "tuple_iterator",data:=.fields #[.ref a,.int 0 0] },g,d,tk,os⟩) b ys:=Heap.IsTuple.push h2 _
    wp_walk using wpAny_pyIter_tuple H1,wpAny_pyIter_tuple H2
    exact⟨_,rfl,h⟩
   | true =>
    have H1:Heap.IsTuple (Shared.heap ⟨hp,g,d,tk,os⟩) a xs:=h1
    have H2:Heap.IsList (Shared.heap ⟨hp.push { cls:=.type "tuple_iterator",data:=.fields #[.ref a,.int 0 0] },g,d,tk,os⟩) b ys:=Heap.IsList.push h2 _
    wp_walk using wpAny_pyIter_tuple H1,wpAny_pyIter_list H2
    exact⟨_,rfl,h⟩
  | true =>
   cases ke with
   | false =>
    have H1:Heap.IsList (Shared.heap ⟨hp,g,d,tk,os⟩) a xs:=h1
    have H2:Heap.IsTuple (Shared.heap ⟨hp.push { cls:=.type "list_iterator",data:=.fields #[.ref a,.int 0 0] },g,d,tk,os⟩) b ys:=Heap.IsTuple.push h2 _
    wp_walk using wpAny_pyIter_list H1,wpAny_pyIter_tuple H2
    exact⟨_,rfl,h⟩
   | true =>
    have H1:Heap.IsList (Shared.heap ⟨hp,g,d,tk,os⟩) a xs:=h1
    have H2:Heap.IsList (Shared.heap ⟨hp.push { cls:=.type "list_iterator",data:=.fields #[.ref a,.int 0 0] },g,d,tk,os⟩) b ys:=Heap.IsList.push h2 _
    wp_walk using wpAny_pyIter_list H1,wpAny_pyIter_list H2
    exact⟨_,rfl,h⟩
theorem qJw (ha:SqH kd s.heap a xs) (hb:SqH ke s.heap b ys)
  (h:∀h',Zs kd ke h' (s.heap.objs.size+4) (s.heap.objs.size+2) (s.heap.objs.size+3) s.heap.objs.size (s.heap.objs.size+1) a b 0->(∀c o,s.heap.get? c=some o->h'.get? c=some o)->Q (.ref (s.heap.objs.size+4)) { s with heap:=h' }):wpAny (model prog w) A (call (.type "zip") [.ref a,.ref b]) Q E s:=by
 refine callType_new F.called_zip (by decide) (F.typeCall_zip_2 _ _) (F.newCall_zip_2 _ _) (λobj=>F.args_object_init_3 obj _ _) F.entry_zip_new (qJu kd ke a b xs ys) ⟨ha,hb,?_⟩
 have z1:(nE kd s.heap a).objs.size=s.heap.objs.size+1:=Heap.size_push ..
 have z2:(nC kd ke s.heap a b).objs.size=s.heap.objs.size+2:=by rw [Heap.size_push,z1]
 have z3:(nz kd ke s.heap a b).objs.size=s.heap.objs.size+3:=by rw [Heap.size_push,z2]
 have z4:(ny kd ke s.heap a b).objs.size=s.heap.objs.size+4:=by rw [Heap.size_push,z3]
 have g5:(km kd ke s.heap a b).get? (ny kd ke s.heap a b).objs.size=some _:=Qh _ rfl
 have g4:(km kd ke s.heap a b).get? (nz kd ke s.heap a b).objs.size=some _:=Qg _ (Qh _ rfl)
 have g3:(km kd ke s.heap a b).get? (nC kd ke s.heap a b).objs.size=some _:=Qg _ (Qg _ (Qh _ rfl))
 have g2:(km kd ke s.heap a b).get? (nE kd s.heap a).objs.size=some _:=Qg _ (Qg _ (Qg _ (Qh _ rfl)))
 have g1:(km kd ke s.heap a b).get? s.heap.objs.size=some _:=Qg _ (Qg _ (Qg _ (Qg _ (Qh _ rfl))))
 show _/\_
 rw [z2,z3,z4] at g5;rw [z1,z2] at g3;rw [z3] at g4;rw [z1] at g2;rw [z4]
 exact⟨⟨_,g5,rfl⟩,h _ ⟨g5,g3,⟨_,_,g4⟩,(by cases kd with|true=>exact⟨_,g1,rfl,rfl⟩|false=>exact⟨_,g1,rfl,rfl⟩),(by cases ke with|true=>exact⟨_,g2,rfl,rfl⟩|false=>exact⟨_,g2,rfl,rfl⟩)⟩ λc o x=>Qg _ (Qg _ (Qg _ (Qg _ (Qg _ x))))⟩
end
theorem qJt (n:Nat):Zp (n+4) (n+2) (n+3) n (n+1):=by
 constructor<;>(intro h;have h':(_:Nat)=_:=h;omega)
section
variable {X:Cx}
theorem qK6:Qo (Qa "zip")=some (.type "zip"):=by decide +kernel
def qTG (K:Qb) (ta:TA):TI:=fun Z H R=>ta Z H λvs H1=>∃(kd ke:Bool) (a b:Addr) (xs ys:List V),vs=[.ref a,.ref b]/\SqK kd K H1 a xs/\SqK ke K H1 b ys/\(xs.length<=sizeLine->R (uR kd ke K a b) H1)
theorem qPD {kk:Nat}{tp:Pos}{x:Str}{a b:Expr}{ta:TA}{p pos:Pos}(hx:x=Qa "zip") (hg:Gl X x) (hm:X.mg x=none) (ha:PA X [a,b] ta) (hs:starEach [a,b] X.env=[(false,eval a X.env),(false,eval b X.env)]) (hs2:starEach [b] X.env=[(false,eval b X.env)]) :
  PI X (.Tuple es kk tp) (.Call (.Name x p) [a,b] [] pos) (qTG X.K ta):=by
 subst hx
 intro pins s Z H R I h
 refine Call_ (ik I hg hm qK6 (iV (aw (ha pos pins s Z H _ I h) λus s1 ⟨vs,H1,I1,r1,q1⟩=>?_) (by rw [hs,hs2]) (by rw [hs2];rfl)))
 obtain⟨kd,ke,a1,b1,xs,ys,rfl,hx,hy,q⟩:=q1
 cases r1 with
 | cons ra rr =>
  cases rr with
  | cons rb rr =>
   cases rr
   cases ra
   cases rb
   obtain⟨t1,v1,p1,zl⟩:=hx.its I1
   obtain⟨t2,v2,p2,_⟩:=hy.its I1
   refine qJw p1 p2 λh' S kp=>wpAny_pyIter_zip S.hz ?_
   have I2:Inv X pins Z H1 { s1 with heap:=h' }:=I1.kept (t':=s1.toks) kp
   refine⟨_,[s1.heap.objs.size+4,s1.heap.objs.size+2,s1.heap.objs.size+3,s1.heap.objs.size,s1.heap.objs.size+1],_,_,H1,rfl,I2,qJB a1 b1 (qJt _),S,λc hc=>?_,q zl⟩
   have hge:s1.heap.objs.size<=c:=by
    simp only [yag,d5,or_false] at hc
    rcases hc with rfl|rfl|rfl|rfl|rfl<;>omega
   exact I1.fpOk hge (I1.hok.fresh hge)
end
end Dw
namespace Dw
open PySem PySem.Spec PyProof.Rows L2
section
open AutoSeq1 (wpAny_loadPart')
theorem qGR (l:Addr) (items:Array Value) (n:Nat) (dct:Option Addr) (sl:Array (Option Value)) :
  Meets (Builtin.«enumerate.__new__» ⟨[.type "enumerate",.ref l],[]⟩) (λ_ R s=>s.heap.get? l=some { cls:=.type "tuple",dict:=dct,data:=.seq items n,slots:=sl } /\
   R (.ok (.ret (.ref (s.heap.push { cls:=.type "tuple_iterator",data:=.fields #[.ref l,.int 0 0] }).objs.size)))
    { s with heap:=(s.heap.push { cls:=.type "tuple_iterator",data:=.fields #[.ref l,.int 0 0] }).push { cls:=.type "enumerate",data:=.fields #[.none,.bool false,.ref s.heap.objs.size,rawInt 0,.none,.none] } }):=
 .of_wp λprog w A R s h=>by
  obtain⟨hp,g,d,tk,os⟩:=s;obtain⟨hl,h⟩:=h
  have hsub:=sub_enumerate
  have hL:Heap.IsTuple (Shared.heap ⟨hp,g,d,tk,os⟩) l items:=⟨_,hl,rfl,n,rfl⟩
  wp_walk using wpAny_loadPart' hl
  refine wpAny_stack_any λst=>Qd ?_
  split
  ·rename_i c _ _ _ _ _
   cases (c == Value.type "enumerate")
   ·wp_walk using wpAny_loadPart' hl,wpAny_pyIter_tuple hL
    exact⟨_,rfl,h⟩
   ·wp_walk using wpAny_loadPart' hl,wpAny_pyIter_tuple hL
    exact⟨_,rfl,h⟩
  ·wp_walk using wpAny_loadPart' hl,wpAny_pyIter_tuple hL
   exact⟨_,rfl,h⟩
end
structure Es (kd:Bool) (h:Heap) (e i t:Addr) (k:Nat):Prop where
 he:∃old,IsEnum h e i ((k:Nat):Int) old
 hi:SqI kd h i t k
section
variable {prog:Program}{w:World}{A:Around}{E:Value->Shared->Prop}{s:Shared}
theorem SqH.at (x:SqH kd h t its) (e:∀o,h.get? t=some o->h'.get? t=some o):SqH kd h' t its:=by
 cases kd with
 | true=>obtain⟨o,a,b⟩:=x;exact⟨o,e _ a,b⟩
 | false=>obtain⟨o,a,b⟩:=x;exact⟨o,e _ a,b⟩
theorem qKT (hh:A.handled=none) (i t:Addr) (ne:t≠i) (its:Array Value):Draws prog w A i [i,t] its.size (λk x=>its[k]?=some x) (λk h=>SqI kd h i t k/\SqH kd h t its) where
 live:=λk h st=>by obtain⟨o,e,_⟩:=st.1.rec';exact⟨o,e⟩
 frame:=λk h h' st hk=>⟨st.1.at λo e=>hk i (by simp) o e,st.2.at λo e=>hk t (by simp) o e⟩
 item:=λk s Q E hk st q=>pR st.1 st.2 (y:=its[k]) (by simp [hk]) λh1 i1 s1=>q its[k] h1 s.toks (by simp [hk]) ⟨i1,st.2.but s1 ne⟩ s1
 done:=λs Q E st q=>pG hh st.1 st.2 (by simp) q
theorem qIN (ha:SqH kd s.heap a xs)
  (h:∀h',Es kd h' (s.heap.objs.size+1) s.heap.objs.size a 0->(∀c o,s.heap.get? c=some o->h'.get? c=some o)->Q (.ref (s.heap.objs.size+1)) { s with heap:=h' }):wpAny (model prog w) A (call (.type "enumerate") [.ref a]) Q E s:=by
 cases kd with
 | true=>exact call_enumerate_list ha λh' e1 e2 _ k=>h h' ⟨⟨_,e1⟩,e2⟩ k
 | false =>
  obtain⟨⟨c,dct,dt,sl⟩,hl,hc,n,hd⟩:=ha
  replace hc:c=.type "tuple":=hc
  replace hd:dt=.seq xs n:=hd
  subst hc hd
  refine callType_new F.called_enumerate (by decide) (F.typeCall_enumerate_1 _) (F.newCall_enumerate_1 _) (λobj=>F.args_object_init_2 obj _) F.entry_enumerate_new (qGR a xs n dct sl) ⟨hl,?_⟩
  have hz:(s.heap.push { cls:=.type "tuple_iterator",data:=.fields #[.ref a,.int 0 0] }).objs.size=s.heap.objs.size+1:=Heap.size_push ..
  show _/\_
  rw [hz]
  have he:IsEnum ((s.heap.push { cls:=.type "tuple_iterator",data:=.fields #[.ref a,.int 0 0] }).push
    { cls:=.type "enumerate",data:=.fields #[.none,.bool false,.ref s.heap.objs.size,rawInt 0,.none,.none] }) (s.heap.objs.size+1) s.heap.objs.size 0 .none:=by
   have:=Qh (s.heap.push { cls:=.type "tuple_iterator",data:=.fields #[.ref a,.int 0 0] })
    (o:={ cls:=.type "enumerate",data:=.fields #[.none,.bool false,.ref s.heap.objs.size,rawInt 0,.none,.none] }) rfl
   rw [hz] at this;exact this
  exact⟨⟨_,he,rfl⟩,h _ ⟨⟨_,he⟩,⟨_,Qg _ (Qh _ rfl),rfl,rfl⟩⟩ λb o x=>Qg _ (Qg _ x)⟩
end
def uT (kd:Bool) (K:Qb) (a:Addr):It:=
 ⟨λi H=>∃xs x,SqK kd K H a xs/\xs[i]?=some x,
  λi H v H'=>∃T x,H T=none/\v=.ref T/\(∀xs,SqK kd K H a xs->xs[i]?=some x)/\H'=av H T (.tup [.int ((i:Nat):Int),x]),
  λi H=>∃xs,SqK kd K H a xs/\xs.length<=i⟩
theorem qJC {w:World}{K:Qb}{es:List Expr}{kk:Nat}{pos:Pos}{e i:Addr}(a:Addr) (ne:e≠i):Turn P w K (.Tuple es kk pos) (uT kd K a) [e,i] e (λk h=>Es kd h e i a k) where
 mem:=by simp
 obj:=λk h S c hc=>by
  obtain⟨⟨old,he⟩,hi⟩:=S
  simp only [yag,d5,or_false] at hc
  rcases hc with rfl|rfl
  ·exact⟨_,he,λv r=>by have r':Data.fields _=Data.cell v:=r;cases r'⟩
  ·exact hi.rec'
 keep:=λk h h' S kp=>by
  obtain⟨⟨old,he⟩,hi⟩:=S
  exact⟨⟨old,kp e (by simp) _ he⟩,hi.at λo e=>kp i (by simp) o e⟩
 item:=by
  intro X hP hw hK hc k pins s Z H E I hf S hg
  subst hP hw hK
  obtain⟨xs,x,ha,hx⟩:=hg
  obtain⟨i1,r1,p1,z1⟩:=ha.its I
  obtain⟨u,hu,ru⟩:=r1.get hx
  have na:=ha.nfp I hf
  simp only [yag,d5,or_false,not_or] at na
  obtain⟨⟨old,he⟩,hi⟩:=S
  have hlt:k<i1.toArray.size:=by
   have:=(yao.mp hu).1
   simpa using this
  refine wpAny_pyNext_enum_itemD (qKT (A:=X.A.in1) (I.ok.hd hc) i a na.2 i1.toArray) he ⟨hi,p1⟩ hlt ne (by simp only [yag,d5,or_false,not_or];exact⟨ne,Ne.symm na.1⟩) λx1 h' tk hPx ho hs' hT hsz kp=>?_
  have ex:x1=u:=by
   have h2:i1[k]?=some x1:=by simpa using hPx
   rw [hu] at h2;exact (fX h2).symm
  subst ex
  refine⟨_,rfl,wpAny_letOwnedTupleGo_enum ho λh2 f1 f2=>?_⟩
  have lte:e<s.heap.objs.size:=Qi he
  have nT:s.heap.objs.size≠e:=iD lte
  have kp2:∀c o,c∉[e,i]->s.heap.get? c=some o->h2.get? c=some o:=λc o hc q=>by
   simp only [yag,d5,or_false,not_or] at hc
   exact f2.extBut _ _ hc.1 (kp c o hc.1 hc.2 q)
  have I2:=wL (t':=tk+1) (T:=s.heap.objs.size) (o:=.tup [.int ((k:Nat):Int),x]) I hf kp2 (ar _) ⟨by show 2<=sizeLine;decide,[.int k tk,x1],.cons ⟨tk,rfl⟩ (.cons ru .nil),⟨_,f2.extBut _ _ nT hT,rfl,_,rfl⟩⟩
  have hn:H s.heap.objs.size=none:=I.hok.fresh (ar _)
  refine⟨.ref s.heap.objs.size,av H s.heap.objs.size (.tup [.int ((k:Nat):Int),x]),I2,rfl,⟨_,x,hn,rfl,λzs hz=>by rw [SqK.inj I hz ha];exact hx,rfl⟩,⟨⟨x1,by simpa using f1⟩,hs'.1.extBut f2.extBut (Ne.symm ne)⟩,λc hc=>?_⟩
  have hlt:c<s.heap.objs.size:=by
   simp only [yag,d5,or_false] at hc
   rcases hc with rfl|rfl
   ·exact lte
   ·obtain⟨o,q,_⟩:=hi.rec';exact Qi q
  rw [ax (bK hlt)]
  exact (hf c hc).1
 done:=by
  intro X hP hw hK hc k pins s Z H E I hf S hg
  subst hP hw hK
  obtain⟨xs,ha,hl⟩:=hg
  obtain⟨i1,r1,p1,z1⟩:=ha.its I
  have l1:=r1.length
  have na:=ha.nfp I hf
  simp only [yag,d5,or_false,not_or] at na
  obtain⟨⟨old,he⟩,hi⟩:=S
  have hT:s.TypeIs (.ref e) "enumerate":=⟨_,he,rfl⟩
  unfold pyNext
  refine Qc (wpAny_attempt (wpAny_callSpecial?_slot (name:=Qa "__next__") hT F.slot_enumerate_next
   (wpAny_call_entry F.slot_enumerate_next hT F.entry_enumerate_next ?_ (F.args_enumerate_next_1 _))))
  show wpAny _ _ (field (.ref e) 2 >>= _) _ _ _
  refine Qc (Qf he rfl (x:=.ref i) rfl ?_)
  refine Qc (pG (I.ok.hd hc) hi p1 (by simp;omega) λh' x he' hx'=>?_)
  obtain⟨o,ho,hcc⟩:=hx'
  refine Qc (wpAny_isInstance (T:="StopIteration") (b:=true) ⟨o,ho,hcc⟩ isSubtype_stop ?_)
  exact Qd ⟨rfl,wM (t':=s.toks) I hf λc o hc q=>he' c o (λr=>hc (by simp [r])) q⟩
 self:=λ_ _ _ _ _ S h=>by obtain⟨⟨old,he⟩,_⟩:=S;exact wpAny_pyIter_enum he h
theorem xk {K:Qb}{H:Hp}{F:Fz}{a:Addr}{ds:List D}{vs:List V}(ha:SqF kd K H F a vs) (ra:RDs K H F ds vs):ItOk K (uT kd K a) H F (fm 0 ds):=by
 intro H' F' k dom
 have ha':SqK kd K H' a vs:=ha.keep k
 have ra':=RDs.mono k ra
 have la:=RDs.length ra'
 refine⟨λi d hd=>?_,⟨vs,ha',?_⟩⟩
 ·rw [qIO] at hd
  cases h1:ds[i]? with
  | none=>simp [h1] at hd
  | some d1 =>
   simp only [h1,ko,qI,cZ] at hd
   subst hd
   obtain⟨v,e1,e2⟩:=RDs.get ra' h1
   refine⟨⟨vs,v,ha',e1⟩,λx H3 y=>?_⟩
   obtain⟨T,x1,hT,rfl,q1,rfl⟩:=y
   have:=q1 vs ha'
   rw [e1] at this
   cases this
   obtain⟨g,rr⟩:=ly (ds:=[.int ((i:Nat):Int),d1]) dom hT ⟨.int ((i:Nat):Int),[v],rfl,rfl,v,[],rfl,e2,rfl⟩
   exact⟨F',g,rr⟩
 ·rw [uF]
  omega
section
variable {X:Cx}
theorem qK7:Qo (Qa "enumerate")=some (.type "enumerate"):=by decide +kernel
def qTI (K:Qb) (ta:TA):TI:=fun Z H R=>ta Z H λvs H1=>∃(kd:Bool) (a:Addr) (xs:List V),vs=[.ref a]/\SqK kd K H1 a xs/\(xs.length<=sizeLine->R (uT kd K a) H1)
theorem qPE {kk:Nat}{tp:Pos}{x:Str}{a:Expr}{ta:TA}{p pos:Pos}(hx:x=Qa "enumerate") (hg:Gl X x) (hm:X.mg x=none) (ha:PA X [a] ta) (hs:starEach [a] X.env=[(false,eval a X.env)]) :
  PI X (.Tuple es kk tp) (.Call (.Name x p) [a] [] pos) (qTI X.K ta):=by
 subst hx
 intro pins s Z H R I h
 refine Call_ (ik I hg hm qK7 (iV (aw (ha pos pins s Z H _ I h) λus s1 ⟨vs,H1,I1,r1,q1⟩=>?_) (by rw [hs];rfl) (by rfl)))
 obtain⟨kd,a1,xs,rfl,hx,q⟩:=q1
 cases r1 with
 | cons ra rr =>
  cases rr
  cases ra
  obtain⟨t1,v1,p1,zl⟩:=hx.its I1
  refine qIN p1 λh' S kp=>?_
  obtain⟨⟨old,he⟩,hi⟩:=S
  refine wpAny_pyIter_enum he ?_
  have I2:Inv X pins Z H1 { s1 with heap:=h' }:=I1.kept (t':=s1.toks) kp
  refine⟨_,[s1.heap.objs.size+1,s1.heap.objs.size],_,_,H1,rfl,I2,qJC a1 (Nat.succ_ne_self _),⟨⟨old,he⟩,hi⟩,λc hc=>?_,q zl⟩
  have hge:s1.heap.objs.size<=c:=by
   simp only [yag,d5,or_false] at hc
   rcases hc with rfl|rfl<;>omega
  exact I1.fpOk hge (I1.hok.fresh hge)
end
end Dw
namespace Dw
open PySem PySem.Spec PyProof.Rows L2
noncomputable def d6 (env:Env):List (Str×NameKind)->List (Str×Addr)->List (Str×Addr)
 | [],acc=>acc
 | (n,k)::r,acc=>d6 env r (if k == .free then (n,(env.cells.lookup n).getD 0)::acc else acc)
theorem yt (env:Env):∀(l:List (Str×NameKind)) (acc:List (Str×Addr)),(∀y∈l,y.2=.free->∃c,env.cells.lookup y.1=some c) ->
  (do
   let mut cs:=acc
   for (name,kind) in l do
    if kind == .free then cs:=(name,<-cellOf env name)::cs
   return cs:Sem (List (Str×Addr)))=pure (d6 env l acc)
 | [],acc,_=>rfl
 | (n,k)::r,acc,h=>by
  have ih:=λa=>yt env r a λy hy=>h y (bC _ hy)
  simp only [qF]
  cases hk:k == NameKind.free with
  | true =>
   obtain⟨c,hc⟩:=h (n,k) bh (by simpa using hk)
   have e:cellOf env n=pure c:=by unfold cellOf;rw [hc]
   simp only [if_true]
   rw [e]
   have:=ih ((n,c)::acc)
   simp only [d6,hk,if_true,hc,Option.getD_some]
   exact this
  | false =>
   simp only [d6,hk,fB,if_false]
   exact ih acc
theorem yu (sc:Scope) (env:Env) (h:∀y∈sc.names,y.2=.free->∃c,env.cells.lookup y.1=some c):closureFor sc env=pure (d6 env sc.names []):=yt env sc.names [] h
theorem tM (env:Env):∀(l:List (Str×NameKind)) (acc:List (Str×Addr)) (x:Str) (c:Addr),(d6 env l acc).lookup x=some c->acc.lookup x=some c∨((x,NameKind.free)∈l/\c=(env.cells.lookup x).getD 0)
 | [],acc,x,c,h=>.inl h
 | (n,k)::r,acc,x,c,h=>by
  rcases tM env r _ x c h with q|q
  ·split at q
   ·rename_i hk
    rw [iT] at q
    split at q
    ·rename_i hx
     have e1:x=n:=by simpa using hx
     have e2:k=.free:=by simpa using hk
     subst e1 e2
     cases q
     exact .inr ⟨bh,rfl⟩
    ·exact .inl q
   ·exact .inl q
  ·exact .inr ⟨bC _ q.1,q.2⟩
theorem mY (env:Env):∀(l:List (Str×NameKind)) (acc:List (Str×Addr)) (x:Str),((x,NameKind.free)∈l∨(acc.lookup x).isSome=true)->∃c,(d6 env l acc).lookup x=some c
 | [],acc,x,h=>by
  rcases h with h|h
  ·cases h
  ·exact Option.isSome_iff_exists.mp h
 | (n,k)::r,acc,x,h=>by
  refine mY env r _ x ?_
  rcases h with h|h
  ·rcases yag.mp h with e|e
   ·cases e
    exact .inr (by simp)
   ·exact .inl e
  ·refine .inr ?_
   split
   ·rw [iT]
    split
    ·rfl
    ·exact h
   ·exact h
theorem jJ {sc:Scope}{x:Str}{c:Addr}(h:∀y∈sc.names,y.2=.free->∃c,env.cells.lookup y.1=some c) (e:(d6 env sc.names []).lookup x=some c):env.cells.lookup x=some c:=by
 rcases tM env _ _ x c e with q|⟨q1,q2⟩
 ·cases q
 ·obtain⟨c',hc⟩:=h _ q1 rfl
  have hc':env.cells.lookup x=some c':=hc
  rw [q2,hc']
  rfl
theorem Ax {env:Env}:∀{names:List (Str×NameKind)}{x:Str},
  (names.map λ(n,k)=>if (k == NameKind.free&&env.scope.kind == .function&&env.kindOf n == some .cell) then (n,NameKind.cell) else (n,k)).lookup x =
   (names.lookup x).map λk=>if (k == NameKind.free&&env.scope.kind == .function&&env.kindOf x == some .cell) then NameKind.cell else k
 | [],x=>rfl
 | (n,k)::r,x=>by
  have ih:=@Ax env r x
  show List.lookup x ((if (k == NameKind.free&&env.scope.kind == .function&&env.kindOf n == some .cell)=true then (n,NameKind.cell) else (n,k))::_)=_
  cases hx:x == n with
  | true =>
   have e:x=n:=by simpa using hx
   subst e
   cases hc:(k == NameKind.free&&env.scope.kind == .function&&env.kindOf x == some .cell)<;>simp only [iT,hc,beq_self_eq_true,if_true,fB,if_false,ko]
  | false =>
   cases hc:(k == NameKind.free&&env.scope.kind == .function&&env.kindOf n == some .cell)<;>(simp only [iT,hx,if_true,fB,if_false];exact ih)
theorem pT (sc:Scope) (env:Env) (x:Str):(relabel sc env).names.lookup x=(sc.names.lookup x).map λk=>if (k == NameKind.free&&env.scope.kind == .function&&env.kindOf x == some .cell) then NameKind.cell else k:=Ax
theorem uh (h:sc.names.lookup x=some .local):(relabel sc env).names.lookup x=some .local:=by
 rw [pT,h];rfl
theorem qNg (h:sc.names.lookup x=some .globalImplicit):(relabel sc env).names.lookup x=some .globalImplicit:=by
 rw [pT,h];rfl
theorem sV (h:sc.names.lookup x=some .free):(relabel sc env).names.lookup x=some .cell∨(relabel sc env).names.lookup x=some .free:=by
 rw [pT,h]
 simp only [ko]
 split
 ·exact .inl rfl
 ·exact .inr rfl
theorem qNh (hc:∀y∈sc.names,y.2≠.cell) (h:(relabel sc env).names.lookup x=some .cell∨(relabel sc env).names.lookup x=some .free):sc.names.lookup x=some .free:=by
 rw [pT] at h
 cases hx:sc.names.lookup x with
 | none=>rw [hx] at h;rcases h with h|h<;>cases h
 | some k =>
  rw [hx] at h
  simp only [ko,qI] at h
  cases k with
  | free=>rfl
  | cell=>exact Qn rfl (hc _ (dg hx))
  | _=>rcases h with h|h<;>(split at h<;>first|(cases h;done)|(rename_i q;exfalso;revert q;simp;done))
def kW (X:Cx) (sc:Scope) (N:List Str) (C:Addr) (s:Shared) (H:Hp) (fp:List Addr):Cx where
 prog:=X.prog
 w:=X.w
 K:=X.K
 mg:=X.mg
 base:=X.base
 A:=X.A
 N:=N
 s₀:=s
 H₀:=H
 env:=compEnvC sc (d6 X.env sc.names []) C X.env
 outer:=X.stack
 stack:=X.stack
 ex:=fp
 calm:=X.calm
 fn:=λ_=>false
 pn:=[]
 xe:=λ_ _=>False
section
variable {call:Nat->List D->Option R}{G:Gx}{k:Nat}{X:Cx}{sc sc':Scope}{N:List Str}
structure ScOk (sc:Scope):Prop where
 kind:sc.kind=.function
 cell:∀y∈sc.names,y.2≠.cell
 nd:(sc.names.map (·.1)).Nodup
 pl:∀x∈aG sc++aB sc,fN x=true
theorem zv (h:pP sc=true):ScOk sc:=by
 unfold pP at h
 simp only [aI,beq_iff_eq,List.all_eq_true,bne_iff_ne,ne_eq,decide_eq_true_eq] at h
 obtain⟨⟨⟨h1,h2⟩,h3⟩,h4⟩:=h
 exact⟨h1,h2,h3,h4⟩
theorem mQ {l:List (Str×NameKind)}(nd:(l.map (·.1)).Nodup) {x:Str}{k:NameKind}(h:(x,k)∈l):l.lookup x=some k:=by
 induction l with
 | nil=>cases h
 | cons p r ih =>
  obtain⟨n,k'⟩:=p
  simp only [cT,ybv] at nd
  rcases yag.mp h with e|e
  ·cases e
   simp [iT]
  ·have hne:(x == n)=false:=by
    rw [beq_eq_false_iff_ne]
    intro z
    subst z
    exact nd.1 (yaN.mpr ⟨_,e,rfl⟩)
   rw [iT,hne]
   exact ih nd.2 e
theorem own_mem:x∈aG sc↔(x,NameKind.local)∈sc.names/\x≠Qa ".0":=by
 unfold aG
 simp only [yaN,ybQ,aI,beq_iff_eq,bne_iff_ne,ne_eq]
 constructor
 ·rintro⟨⟨n,k⟩,⟨h1,h2,h3⟩,rfl⟩
  have h2:k=.local:=h2
  subst h2
  exact⟨h1,h3⟩
 ·rintro⟨h1,h2⟩
  exact⟨_,⟨h1,rfl,h2⟩,rfl⟩
theorem free_mem:x∈aB sc↔(x,NameKind.free)∈sc.names:=by
 unfold aB
 simp only [yaN,ybQ,beq_iff_eq]
 constructor
 ·rintro⟨⟨n,k⟩,⟨h1,h2⟩,rfl⟩
  have h2:k=.free:=h2
  subst h2
  exact h1
 ·intro h
  exact⟨_,⟨h,rfl⟩,rfl⟩
theorem sk (nd:(sc.names.map (·.1)).Nodup):((sc.names.filter p).map (·.1)).Nodup:=nd.sublist ((List.filter_sublist).map _)
theorem qKp (S:ScOk sc):(aG sc++aB sc).Nodup:=by
 rw [ycc]
 refine⟨sk S.nd,sk S.nd,λx hx y hy e=>?_⟩
 subst e
 have h1:=mQ S.nd (own_mem.mp hx).1
 have h2:=mQ S.nd (free_mem.mp hy)
 rw [h1] at h2
 cases h2
end
end Dw
namespace Dw
open PySem PySem.Spec PyProof.Rows L2
section
variable {call:Nat->List D->Option R}{G:Gx}{k:Nat}{X:Cx}{sc sc':Scope}{N:List Str}
def oF (X:Cx) (sc':Scope):Prop:=∀x,(x,NameKind.free)∈sc'.names->X.env.kindOf x=some .cell∨X.env.kindOf x=some .free
theorem mX (ok:X.Ok) (h:oF X sc'):∀y∈sc'.names,y.2=.free->∃c,X.env.cells.lookup y.1=some c:=λy hy e=>by
 obtain⟨x,kk⟩:=y
 have e:kk=.free:=e
 subst e
 exact ok.has x (h x hy)
theorem qSB (I:Inv X pins Z H s) (S:ScOk sc') (T:oF X sc') (hf:∀b∈fp,dS X pins H b) (hl:∀b∈fp,b<s.heap.objs.size) :
  (kW X sc' N' s.heap.objs.size s H fp).Ok:=by
 have hc:=mX I.ok T
 refine⟨I.ok.mod,S.kind,I.ok.glob,I.ok.blt,ar _,λx y c h1 h2=>?_,λx h=>?_,λx c h=>?_,I.ok.hd,I.ok.frames,.inl rfl,λb hb=>⟨bK (hl b hb),λx c e=>?_⟩,I.bs,aM I.ok.bsz I.sz,λb o e hb=>?_,λb hb hs=>?_,I.stack,I.stkFree⟩
 ·exact I.ok.inj x y c (jJ hc h1) (jJ hc h2)
 ·have hx:=qNh S.cell h
  exact mY X.env _ _ x (.inl (dg hx))
 ·exact Qn h (by intro z;cases z)
 ·exact (hf b hb).2.2.2.2.1 x c (jJ hc e)
 ·rcases (hf b hb).2.2.2.1 with q|q
  ·exact I.ok.noex b o e q
  ·exact Qn (bG (Qi (I.ok.bs b o e).1) q) (fA _)
 ·rcases yag.mp (I.stkSub b hs) with e|e
  ·exact (hf b hb).2.1 e
  ·exact (hf b hb).2.2.1 e
theorem qKW (I:Inv X pins Z H s) (S:ScOk sc') (T:oF X sc') (hf:∀b∈fp,dS X pins H b) (hl:∀b∈fp,b<s.heap.objs.size)
  (kp:∀b o,s.heap.get? b=some o->h'.get? b=some o) (hn:h'.Ns s.heap.objs.size m) (τ:L2.St) (hlen:τ.length=N'.length)
  (hv:∀(i:Nat) (x:Str) (v:V),N'[i]?=some x->τ[i]?=some (some v)->(x,NameKind.free)∈sc'.names/\∃j:Nat,X.N[j]?=some x/\Z[j]?=some (some v)) (hvis:∀x,(x,NameKind.free)∈sc'.names->jh X.env.scope x) :
  Inv (kW X sc' N' s.heap.objs.size s H fp) (X.pn++pins) τ H { s with heap:=h',toks:=t' }:=by
 have hc:=mX I.ok T
 refine⟨qSB I S T hf hl,rfl,I.bare,Un.kept kp,⟨m,hn,λi x v e1 e2 e3=>?_⟩,λx c e=>?_,I.hok.fresh (ar _),λx c e=>I.freeC x c (jJ hc e),λp hp=>?_,I.hok.kept kp,hlen⟩
 ·obtain⟨hx,j,q1,q2⟩:=hv i x v e1 e2
  obtain⟨m0,hm0,hl0⟩:=I.loc
  obtain⟨u,r,l⟩:=hl0 j x v q1 q2 (hvis x hx)
  refine⟨u,r,.inr ⟨?_,?_⟩⟩
  ·exact sV (mQ S.nd hx)
  ·obtain⟨c,ec⟩:=mY X.env _ [] x (.inl hx)
   refine⟨c,ec,?_⟩
   have ec':=jJ hc ec
   rcases l with ⟨hk,_⟩|⟨hk,c',hc',hcell⟩
   ·rcases T x hx with z|z<;>(rw [hk] at z;cases z)
   ·rw [ec'] at hc'
    cases hc'
    obtain⟨o,ho,hd⟩:=hcell
    exact⟨o,kp c o ho,hd⟩
 ·obtain⟨v,o,ho,hd⟩:=I.cell x c (jJ hc e)
  exact⟨v,o,kp c o ho,hd⟩
 ·have hp':p∈X.pn++pins:=hp
  obtain⟨e,n,ne,nf,d⟩:=I.pin p hp'
  refine⟨kp _ _ e,n,bK (Qi e),λhs=>?_,d⟩
  rcases yag.mp (I.stkSub p.1 hs) with z|z
  ·exact ne z
  ·exact nf z
theorem qSA (g:XG call G k X sc N) (S:ScOk sc') {C:Addr}{s:Shared}{H:Hp}{fp:List Addr}:XG call G k (kW X sc' (aG sc'++aB sc') C s H fp) sc' (aG sc'++aB sc'):=by
 refine⟨rfl,qKp S,λx h=>?_,λx h=>?_,λx h=>?_,λx h=>?_,g.calm,rfl,g.room,λf i h=>?_,g.blt,g.cons,g.lam⟩
 ·unfold jD at h
  simp only [dZ,beq_iff_eq] at h
  rcases h with (h|h)|h
  ·exact .inl (uh h)
  ·exact Qn rfl (S.cell _ (dg h))
  ·rcases sV (env:=X.env) h with q|q
   ·exact .inr (.inl q)
   ·exact .inr (.inr q)
 ·simp only [dZ,beq_iff_eq] at h
  rcases h with h|h
  ·exact⟨.inl (uh h),.inr (uh h)⟩
  ·exact Qn rfl (S.cell _ (dg h))
 ·unfold bt at h
  rw [beq_iff_eq] at h
  exact qNg h
 ·unfold jw at h
  simp only [dZ,beq_iff_eq] at h
  rcases h with h|h
  ·exact Qn rfl (S.cell _ (dg h))
  ·exact sV h
 ·obtain⟨a,fd,ps,h1,h2,h3,h4,h5⟩:=(g.defs f i h).ex
  exact⟨a,fd,ps,h1,h2,h3,h4,h5⟩
end
end Dw
namespace Dw
open PySem PySem.Spec PyProof.Rows L2
section
variable {call:Nat->List D->Option R}{G:Gx}{k:Nat}{X:Cx}{sc sc':Scope}{N:List Str}
variable (X) in
def SndI (tg iter:Expr) (b:Bool) (src:En->Option (List D)):Prop:=∃wi:TI,PI X tg iter wi/\∀(Ge:Gp) (H:Hp) (F:Fz) (Z:En) (τ:L2.St) (its:List D) (Rr:It->Hp->Prop),src Z=some its->SR X.K Ge H F Z τ ->
 (∀J H' F',Gr H F H' F'->ItOk X.K J H' F' its->(b=true->its.length<=lim)->Rr J H')->wi τ H Rr
variable (X) in
def oA (tg iter:Expr) (b:Bool) (src:En->Option (List D)):Prop:=∃wi:TI,PI X tg iter wi/\∀(Ge:Gp) (H:Hp) (F:Fz) (Z:En) (τ:L2.St) (its:List D) (Rr:It->Hp->Prop),src Z=some its->SR X.K Ge H F Z τ ->
 (∀J H' F',Gr H F H' F'->oC X.K J H' F' its->(b=true->its.length<=lim)->Rr J H')->wi τ H Rr
theorem SndI.c (h:SndI X tg iter b src):oA X tg iter b src:=let ⟨wi,p,q⟩:=h;⟨wi,p,λGe H F Z τ its Rr e s k=>q Ge H F Z τ its Rr e s λJ H' F' g ok hl=>k J H' F' g ok.g hl⟩
def qTH (K:Qb) (tl:TE):TI:=fun Z H R=>tl Z H λx H1=>∃a xs,x=.ref a/\((SqL K H1 a xs/\(xs.length<=sizeLine->R (qz K a) H1))∨(SqT K H1 a xs/\(xs.length<=sizeLine->R (uS K a) H1)))
theorem xt (hl:PE X l tl):PI X tg l (qTH X.K tl):=by
 intro pins s Z H R I h
 refine aw (hl pins s Z H _ I h) λv s1 ⟨x,H1,I1,r1,a,xs,e,q⟩=>?_
 subst e;cases r1
 have hf:∀b∈[s1.heap.objs.size],dS X pins H1 b:=λb hb=>by
  have e:b=s1.heap.objs.size:=by simpa using hb
  subst e;exact I1.fpOk (ar _) (I1.hok.fresh (ar _))
 rcases q with ⟨hq,q⟩|⟨hq,q⟩
 ·obtain⟨its,rv,p,hz⟩:=I1.list hq
  exact wpAny_pyIter_list p.isList ⟨s1.heap.objs.size,[s1.heap.objs.size],_,_,H1,rfl,I1.kept (t':=s1.toks) λb o e=>Qg _ e,qHc a _,⟨_,Qh _ rfl,rfl,rfl⟩,hf,q hz⟩
 ·obtain⟨its,rv,p,hz⟩:=I1.tuple hq
  exact wpAny_pyIter_tuple (show s1.heap.IsTuple a its.toArray from p) ⟨s1.heap.objs.size,[s1.heap.objs.size],_,_,H1,rfl,I1.kept (t':=s1.toks) λb o e=>Qg _ e,qGz a _,⟨_,Qh _ rfl,rfl,rfl⟩,hf,q hz⟩
theorem qMX (h:SndE call X l c):SndI X tg l true (fun Z=>(aa call Z c).bind λx=>bD x.2):=by
 obtain⟨t,p,q⟩:=h
 refine⟨_,xt p,λGe H F Z τ its Rr hs hr kk=>?_⟩
 obtain⟨r,e1,e2⟩:=af hs
 refine q Ge H F Z τ r _ e1 hr λv H1 F1 g rr=>?_
 obtain⟨F2,g2,rd⟩:=rr.fz g
 obtain⟨b,d⟩:=r
 cases d with
 | lst ds =>
  cases e2
  obtain⟨a,vs,rfl,hl,hrd⟩:=rd
  exact⟨a,vs,rfl,.inl ⟨hl.sq,λz=>kk _ H1 F2 g2 (qNW hl hrd) λ_=>by rw [<-RDs.length hrd];exact z⟩⟩
 | tup ds =>
  cases e2
  obtain⟨a,vs,rfl,hl,hrd⟩:=rd
  exact⟨a,vs,rfl,.inr ⟨hl,λz=>kk _ H1 F2 g2 (xl hl hrd) λ_=>by rw [<-RDs.length hrd];exact z⟩⟩
 | _=>cases e2
theorem qJW (h:dU call X l c):oA X tg l true (fun Z=>(pk Z c (aa call Z c)).bind bD):=by
 obtain⟨t,p,q⟩:=h
 refine⟨_,xt p,λGe H F Z τ its Rr hs hr kk=>?_⟩
 obtain⟨d,e1,e2⟩:=af hs
 refine q Ge H F Z τ d _ e1 hr λv H1 F1 g rx=>?_
 cases d with
 | lst ds =>
  cases e2
  obtain⟨a,vs,rfl,hl,hrd⟩:=rx.lst
  exact⟨a,vs,rfl,.inl ⟨hl,λz=>kk _ H1 F1 g (qQt hl hrd) λ_=>by rw [<-RDs.length hrd];exact z⟩⟩
 | tup ds =>
  cases e2
  obtain⟨a,vs,rfl,hl,hrd⟩:=rx.tup
  exact⟨a,vs,rfl,.inr ⟨hl,λz=>kk _ H1 F1 g (xl hl hrd).g λ_=>by rw [<-RDs.length hrd];exact z⟩⟩
 | _=>cases e2
theorem qM5 (hx:x=Qa "enumerate") (hg:Gl X x) (hm:X.mg x=none) (hn:[a].all dz=true) (ha:SndE call X a ca) :
  SndI X (.Tuple es kk tp) (.Call (.Name x p) [a] [] pos) true (fun Z=>(aa call Z ca).bind λx=>(bD x.2).bind λxs=>some (fm 0 xs)):=by
 simp only [fy,lX,jk] at hn
 have s1:starEach [a] X.env=[(false,eval a X.env)]:=bZ hn
 obtain⟨ta,pa,qa⟩:=ha
 refine⟨_,qPE hx hg hm (fL pa il s1) s1,λGe H F Z τ its Rr hs hr kk=>?_⟩
 obtain⟨r,e1,e2⟩:=af hs
 obtain⟨xs,e5,e6⟩:=af e2
 cases e6
 refine qa Ge H F Z τ r _ e1 hr λv H1 F1 g1 rr1=>?_
 obtain⟨F1',g1',rd1⟩:=rr1.fz g1
 obtain⟨b1,d1⟩:=r
 cases d1 with
 | lst ds1 =>
  cases e5
  obtain⟨p1,v1,rfl,h1,q1⟩:=rd1
  exact⟨true,p1,v1,rfl,LsR.sq h1,λz=>kk _ H1 F1' g1' (xk (kd:=true) h1 q1) λ_=>by rw [uF,<-RDs.length q1];exact z⟩
 | tup ds1 =>
  cases e5
  obtain⟨p1,v1,rfl,h1,q1⟩:=rd1
  exact⟨false,p1,v1,rfl,h1,λz=>kk _ H1 F1' g1' (xk (kd:=false) h1 q1) λ_=>by rw [uF,<-RDs.length q1];exact z⟩
 | _=>cases e5
theorem qMU (hx:x=Qa "zip") (hg:Gl X x) (hm:X.mg x=none) (hn:[a,b].all dz=true) (ha:SndE call X a ca) (hb:SndE call X b cb) :
  SndI X (.Tuple es kk tp) (.Call (.Name x p) [a,b] [] pos) true (fun Z=>(aa call Z ca).bind λx=>(aa call Z cb).bind λy=>(bD x.2).bind λxs=>(fI y.2).bind λys=>some (bN xs ys)):=by
 simp only [fy,lX,jk,aI] at hn
 have s2:starEach [b] X.env=[(false,eval b X.env)]:=bZ hn.2
 have s1:starEach [a,b] X.env=[(false,eval a X.env),(false,eval b X.env)]:=(bZ hn.1).trans (by rw [s2])
 obtain⟨ta,pa,qa⟩:=ha
 obtain⟨tb,pb,qb⟩:=hb
 refine⟨_,qPD hx hg hm (fL pa (fL pb il s2) (bZ hn.1)) s1 s2,λGe H F Z τ its Rr hs hr kk=>?_⟩
 obtain⟨r,e1,e2⟩:=af hs
 obtain⟨r',e3,e4⟩:=af e2
 obtain⟨xs,e5,e6⟩:=af e4
 obtain⟨ys,e7,e8⟩:=af e6
 cases e8
 refine qa Ge H F Z τ r _ e1 hr λv H1 F1 g1 rr1=>?_
 obtain⟨F1',g1',rd1⟩:=rr1.fz g1
 refine qb Ge H1 F1' Z τ r' _ e3 (hr.grow g1') λw H2 F2 g2 rr2=>?_
 obtain⟨F2',g2',rd2⟩:=rr2.fz g2
 have rd1':=RD.mono g2'.keep rd1
 obtain⟨b1,d1⟩:=r
 obtain⟨b2,d2⟩:=r'
 cases d1 with
 | lst ds1 =>
  cases d2 with
  | tup ds2 =>
   cases e5
   cases e7
   obtain⟨p1,v1,rfl,h1,q1⟩:=rd1'
   obtain⟨p2,v2,rfl,h2,q2⟩:=rd2
   exact⟨true,false,p1,p2,v1,v2,rfl,LsR.sq h1,h2,λz=>kk _ H2 F2' (g1'.trans g2') (pD (kd:=true) (ke:=false) h1 h2 q1 q2) λ_=>by
    have:=RDs.length q1
    unfold bN
    rw [lU,<-this]
    exact aM (nM _ _) z⟩
  | lst ds2 =>
   cases e5
   cases e7
   obtain⟨p1,v1,rfl,h1,q1⟩:=rd1'
   obtain⟨p2,v2,rfl,h2,q2⟩:=rd2
   exact⟨true,true,p1,p2,v1,v2,rfl,LsR.sq h1,LsR.sq h2,λz=>kk _ H2 F2' (g1'.trans g2') (pD (kd:=true) (ke:=true) h1 h2 q1 q2) λ_=>by
    have:=RDs.length q1
    unfold bN
    rw [lU,<-this]
    exact aM (nM _ _) z⟩
  | _=>cases e7
 | tup ds1 =>
  cases d2 with
  | tup ds2 =>
   cases e5
   cases e7
   obtain⟨p1,v1,rfl,h1,q1⟩:=rd1'
   obtain⟨p2,v2,rfl,h2,q2⟩:=rd2
   exact⟨false,false,p1,p2,v1,v2,rfl,h1,h2,λz=>kk _ H2 F2' (g1'.trans g2') (pD (kd:=false) (ke:=false) h1 h2 q1 q2) λ_=>by
    have:=RDs.length q1
    unfold bN
    rw [lU,<-this]
    exact aM (nM _ _) z⟩
  | lst ds2 =>
   cases e5
   cases e7
   obtain⟨p1,v1,rfl,h1,q1⟩:=rd1'
   obtain⟨p2,v2,rfl,h2,q2⟩:=rd2
   exact⟨false,true,p1,p2,v1,v2,rfl,h1,LsR.sq h2,λz=>kk _ H2 F2' (g1'.trans g2') (pD (kd:=false) (ke:=true) h1 h2 q1 q2) λ_=>by
    have:=RDs.length q1
    unfold bN
    rw [lU,<-this]
    exact aM (nM _ _) z⟩
  | _=>cases e7
 | _=>cases e5
theorem pY:∀{cs:List C}{Z:En}{ds:List D},bY call Z cs=some ds->ds.length=cs.length
 | [],_,_,h=>by cases h;rfl
 | c::cr,Z,ds,h=>by
  obtain⟨x,e1,e2⟩:=af (by simpa only [tN] using h)
  obtain⟨xs,e3,e4⟩:=af e2
  cases e4
  simp [pY e3]
theorem qPt {ds its:List D}(e:eg ds=some its) (h:ds.length=1):∃i,ds=[.int i]:=by
 match ds,h with
 | [a],_=>cases a<;>first|(cases e;done)|exact⟨_,rfl⟩
theorem qPs {ds its:List D}(e:eg ds=some its) (h:ds.length=2):∃i j,ds=[.int i,.int j]:=by
 match ds,h with
 | [a,b],_=>cases a<;>first|(cases e;done)|(cases b<;>first|(cases e;done)|exact⟨_,_,rfl⟩)
theorem qPr {ds its:List D}(e:eg ds=some its) (h:ds.length=3):∃i j k,ds=[.int i,.int j,.int k]:=by
 match ds,h with
 | [a,b,c],_=>cases a<;>first|(cases e;done)|(cases b<;>first|(cases e;done)|(cases c<;>first|(cases e;done)|exact⟨_,_,_,rfl⟩))
theorem qMY (hx:x=Qa "range") (hg:Gl X x) (hm:X.mg x=none) (hn:rs.all dz=true) (hl:rs.length=1∨rs.length=2∨rs.length=3) (hcl:cs.length=rs.length) (h:ja call X rs cs) :
  SndI X tg (.Call (.Name x p) rs [] pos) false (fun Z=>(bY call Z cs).bind eg):=by
 subst hx
 obtain⟨t,pt,q⟩:=h
 match rs,hl,hn,hcl,pt with
 | [a],_,hn,hcl,pt =>
  simp only [fy,lX,jk] at hn
  refine⟨_,qHQ hg hm pt (bZ hn),λGe H F Z τ its Rr hs hr kk=>?_⟩
  obtain⟨ds,e1,e2⟩:=af hs
  have hlen:=pY e1
  rw [hcl] at hlen
  refine q Ge H F Z τ ds _ e1 hr λvs H1 F1 g rr=>?_
  obtain⟨n,rfl⟩:=qPt e2 hlen
  obtain⟨hc,rfl⟩:=cQ (show (if -(2^62)<=n/\n<2^62 then some ((List.range n.toNat).map λi=>D.int (i:Nat)) else none)=some its from e2)
  obtain⟨v,rfl,hv⟩:=RPs.one rr
  have e:(List.range n.toNat).map (λi:Nat=>D.int (i:Nat))=(List.range n.toNat).map λi:Nat=>D.int (0+(i:Nat)):=by simp
  exact⟨n,by rw [hv.int],hc.1,hc.2,kk _ H1 F1 g (by rw [e];exact qQu 0 n.toNat) λz=>nomatch z⟩
 | [a,b],_,hn,hcl,pt =>
  simp only [fy,lX,jk,aI] at hn
  have s2:starEach [b] X.env=[(false,eval b X.env)]:=bZ hn.2
  have s1:starEach [a,b] X.env=[(false,eval a X.env),(false,eval b X.env)]:=(bZ hn.1).trans (by rw [s2])
  refine⟨_,qHO hg hm pt s1 s2,λGe H F Z τ its Rr hs hr kk=>?_⟩
  obtain⟨ds,e1,e2⟩:=af hs
  have hlen:=pY e1
  rw [hcl] at hlen
  refine q Ge H F Z τ ds _ e1 hr λvs H1 F1 g rr=>?_
  obtain⟨i,j,rfl⟩:=qPs e2 hlen
  cases e2
  obtain⟨v,w,rfl,hv,hw⟩:=RPs.two rr
  have e:(List.range (j - i).toNat).map (λk:Nat=>D.int (i+(k:Nat)))=(List.range (j - i).toNat).map λk:Nat=>D.int (i+(k:Nat) * 1):=by
   refine qL λk _=>?_
   rw [Int.mul_one]
  exact⟨i,j,by rw [hv.int,hw.int],kk _ H1 F1 g (by rw [e];exact x9 i 1 (j - i).toNat) λz=>nomatch z⟩
 | [a,b,c],_,hn,hcl,pt =>
  simp only [fy,lX,jk,aI] at hn
  have s3:starEach [c] X.env=[(false,eval c X.env)]:=bZ hn.2.2
  have s2:starEach [b,c] X.env=[(false,eval b X.env),(false,eval c X.env)]:=(bZ hn.2.1).trans (by rw [s3])
  have s1:starEach [a,b,c] X.env=[(false,eval a X.env),(false,eval b X.env),(false,eval c X.env)]:=(bZ hn.1).trans (by rw [s2])
  refine⟨_,qHP hg hm pt s1 s2,λGe H F Z τ its Rr hs hr kk=>?_⟩
  obtain⟨ds,e1,e2⟩:=af hs
  have hlen:=pY e1
  rw [hcl] at hlen
  refine q Ge H F Z τ ds _ e1 hr λvs H1 F1 g rr=>?_
  obtain⟨i,j,k,rfl⟩:=qPr e2 hlen
  obtain⟨hc,rfl⟩:=cQ (show (if -(2^62)<=i/\i<2^62/\-(2^62)<=j/\j<2^62/\k≠0/\k.natAbs<2^30 then some ((List.range (fH i j k).toNat).map λn=>D.int (i+(n:Nat) * k)) else none)=some its from e2)
  obtain⟨v,w,x,rfl,hv,hw,hx⟩:=RPs.three rr
  exact⟨i,j,k,by rw [hv.int,hw.int,hx.int],hc,kk _ H1 F1 g (x9 i k (fH i j k).toNat) λz=>nomatch z⟩
end
end Dw
namespace Dw
open PySem PySem.Spec PyProof.Rows L2
section
variable {call:Nat->List D->Option R}{G:Gx}{k:Nat}{X:Cx}{sc sc':Scope}{N:List Str}
theorem lx:∀{l:List α}{ks:List β},cm f l=some ks->ks.length=l.length/\∀(i:Nat) (x:α),l[i]?=some x->∃j,ks[i]?=some j/\f x=some j
 | [],ks,h=>by cases h;exact⟨rfl,λi x e=>by simp at e⟩
 | a::r,ks,h=>by
  obtain⟨b,e1,e2⟩:=af (show ((f a).bind λx=>(cm f r).bind λxs=>some (x::xs))=some ks from h)
  obtain⟨bs,e3,e4⟩:=af e2
  cases e4
  obtain⟨h1,h2⟩:=lx e3
  refine⟨by simp [h1],λi x e=>?_⟩
  cases i with
  | zero=>simp at e;subst e;exact⟨b,rfl,e1⟩
  | succ i=>simp at e;obtain⟨j,q1,q2⟩:=h2 i x e;exact⟨j,by simpa using q1,q2⟩
theorem kT (h:hZ sc N x=some j):jw sc x=true/\N[j]?=some x/\jD sc x=true:=by
 unfold hZ at h
 split at h
 ·rename_i hc
  unfold cV at h
  split at h
  ·rename_i hv
   rw [aI] at hv
   exact⟨hc,iv h,hv.1⟩
  ·cases h
 ·cases h
variable {ks:List Nat}
theorem zD (g:XG call G k X sc N) (hk:cm (hZ sc N) (aB sc')=some ks):oF X sc':=λx hx=>by
 obtain⟨i,hi⟩:=yay.mp (free_mem.mpr hx)
 obtain⟨j,e1,e2⟩:=(lx hk).2 i x hi
 exact g.cap x (kT e2).1
theorem qOB (g:XG call G k X sc N) (hk:cm (hZ sc N) (aB sc')=some ks):∀x,(x,NameKind.free)∈sc'.names->jh X.env.scope x:=λx hx=>by
 obtain⟨i,hi⟩:=yay.mp (free_mem.mpr hx)
 obtain⟨j,e1,e2⟩:=(lx hk).2 i x hi
 exact g.vis x (kT e2).2.2
noncomputable def hX (τ:L2.St) (nl:Nat) (ks:List Nat):L2.St:=List.replicate nl none++ks.map λj=>(τ[j]?).join
theorem qJG (τ:L2.St) (nl:Nat):(hX τ nl ks).length=nl+ks.length:=by simp [hX]
theorem qJH (h:(hX τ nl ks)[i]?=some (some v)):∃m j,i=nl+m/\ks[m]?=some j/\τ[j]?=some (some v):=by
 unfold hX at h
 by_cases hi:i<nl
 ·rw [jq (by simpa using hi),kA] at h
  split at h<;>cases h
 ·rw [gE (by simpa using hi),cu] at h
  simp only [qN] at h
  cases q:ks[i - nl]? with
  | none=>rw [q] at h;cases h
  | some j =>
   rw [q] at h
   refine⟨i - nl,j,by omega,q,?_⟩
   simp only [ko,qI] at h
   cases q2:τ[j]? with
   | none=>rw [q2] at h;cases h
   | some o=>rw [q2] at h;simpa using h
theorem lg (h1:ks[m]?=some j) (h2:τ[j]?=some (some v)):(hX τ nl ks)[nl+m]?=some (some v):=by
 unfold hX
 rw [gE (by simp),cu]
 simp [h1,h2]
theorem jY (h:ao (bg Z nl ks) i=some r):∃m j,i=nl+m/\ks[m]?=some j/\ao Z j=some r:=by
 unfold ao bg at h
 by_cases hi:i<nl
 ·rw [jq (by simpa using hi),kA] at h
  split at h<;>cases h
 ·rw [gE (by simpa using hi),cu] at h
  simp only [qN] at h
  cases q:ks[i - nl]? with
  | none=>rw [q] at h;cases h
  | some j =>
   rw [q] at h
   exact⟨i - nl,j,by omega,q,by simpa using h⟩
theorem qQi (S:ScOk sc') (hk:cm (hZ sc N) (aB sc')=some ks) {m m' j:Nat}(h1:ks[m]?=some j) (h2:ks[m']?=some j):m=m':=by
 obtain⟨hl,hg⟩:=lx hk
 have get:∀{m:Nat},ks[m]?=some j->∃x,(aB sc')[m]?=some x/\N[j]?=some x:=λ{m} h=>by
  obtain⟨q,_⟩:=yao.mp h
  have hx:(aB sc')[m]?=some (aB sc')[m]:=cz (by omega)
  obtain⟨j',e1,e2⟩:=hg m _ hx
  rw [h] at e1
  cases e1
  exact⟨_,hx,(kT e2).2.1⟩
 obtain⟨x,a1,a2⟩:=get h1
 obtain⟨y,b1,b2⟩:=get h2
 rw [a2] at b2
 cases b2
 exact tW (sk S.nd) a1 b1
theorem qJU (S:ScOk sc') (hk:cm (hZ sc N) (aB sc')=some ks) {K:Qb}{Ge:Gp}{H:Hp}{F:Fz}{Z:En}{τ:L2.St}(nl:Nat) (s:SR K Ge H F Z τ):SR K ⟨Ge.h,none,Ge.tb⟩ H F (bg Z nl ks) (hX τ nl ks):=by
 refine⟨by simp [bg,hX],s.ent,s.dom,λi d e=>?_,λi d e hd=>?_,λi i' d e h1 h2 h3=>?_,λi m ks' e=>?_,λp d hp=>nomatch hp⟩
 ·obtain⟨m,j,rfl,h1,h2⟩:=jY e
  obtain⟨v,q1,q2⟩:=s.val j d h2
  exact⟨v,lg h1 q1,q2⟩
 ·obtain⟨m,j,rfl,h1,h2⟩:=jY e
  obtain⟨a,ds,vs,q1,q2,q3⟩:=s.own j d h2 hd
  exact⟨a,ds,vs,q1,lg h1 q2,q3⟩
 ·obtain⟨m,j,rfl,a1,a2⟩:=jY h1
  obtain⟨m',j',rfl,b1,b2⟩:=jY h2
  obtain⟨a,u,q2,_⟩:=s.addr a2
  obtain⟨a',u',p2,_⟩:=s.addr b2
  rw [lg a1 q2,lg b1 p2] at h3
  have:j=j':=s.sep j j' d e a2 b2 (by rw [q2,p2,fX h3])
  subst this
  rw [qQi S hk a1 b1]
 ·obtain⟨m',j,rfl,h1,h2⟩:=jY e
  obtain⟨a,q1,q2⟩:=s.dct j m ks' h2
  exact⟨a,lg h1 q1,q2⟩
theorem yF (S:ScOk sc') (Z:En) {x:Str}{i:Nat}(hx:(sc'.names.lookup x == some .local||sc'.names.lookup x == some .cell)=true) (hi:bF (aG sc'++aB sc') x=some i):ao (bg Z (aG sc').length ks) i=none:=by
 cases q:ao (bg Z (aG sc').length ks) i with
 | none=>rfl
 | some r =>
  obtain⟨m,j,rfl,h1,h2⟩:=jY q
  have hs:=iv hi
  rw [gE (by omega)] at hs
  have hm:=free_mem.mp (cj hs)
  have:=mQ S.nd hm
  rw [this] at hx
  simp at hx
theorem wY (S:ScOk sc') (h:fg sc' (aG sc'++aB sc') tg=some t) (Z:En):∀i,(t=.one i∨∃j,t=.two i j∨t=.two j i)->ao (bg Z (aG sc').length ks) i=none:=by
 have one:∀{x:Str} {i:Nat},(sc'.names.lookup x == some .local||sc'.names.lookup x == some .cell)=true->bF (aG sc'++aB sc') x=some i->ao (bg Z (aG sc').length ks) i=none:=λ{x i} hx hi=>yF S Z hx hi
 unfold fg at h
 split at h
 ·rename_i x pos
  split at h
  ·rename_i hx
   cases hi:bF (aG sc'++aB sc') x with
   | none=>rw [hi] at h;cases h
   | some i =>
    rw [hi] at h
    cases h
    intro i' z
    rcases z with z|⟨j,z|z⟩<;>cases z
    exact one hx hi
  ·cases h
 ·rename_i x p y p' kk pos
  split at h
  ·rename_i hx
   rw [aI,aI] at hx
   obtain⟨⟨hx,hy⟩,hne⟩:=hx
   cases hi:bF (aG sc'++aB sc') x with
   | none=>rw [hi] at h;cases h
   | some i =>
    cases hj:bF (aG sc'++aB sc') y with
    | none=>rw [hi,hj] at h;cases h
    | some j =>
     rw [hi,hj] at h
     cases h
     intro i' z
     rcases z with z|⟨j',z|z⟩<;>cases z
     ·exact one hx hi
     ·exact one hy hj
  ·cases h
 ·cases h
theorem yG (S:ScOk sc') (Z:En):∀{es:List Expr}{is:List Nat},cm (dQ sc' (aG sc'++aB sc')) es=some is->∀i∈is,ao (bg Z (aG sc').length ks) i=none
 | [],is,h,i,hi=>by cases h;cases hi
 | e::es,is,h,i,hi=>by
  obtain⟨b,e1,e2⟩:=af (show ((dQ sc' (aG sc'++aB sc') e).bind λx=>(cm (dQ sc' (aG sc'++aB sc')) es).bind λxs=>some (x::xs))=some is from h)
  obtain⟨bs,e3,e4⟩:=af e2
  cases e4
  rcases yag.mp hi with z|z
  ·subst z
   cases e with
   | Name x p =>
    have e1:(if (sc'.names.lookup x == some .local||sc'.names.lookup x == some .cell)=true then bF (aG sc'++aB sc') x else none)=some i:=e1
    split at e1
    ·rename_i hx;exact yF S Z hx e1
    ·cases e1
   | _=>cases e1
  ·exact yG S Z e3 i z
theorem qMA (S:ScOk sc') (h:fe sc' (aG sc'++aB sc') tg=some t) (Z:En):∀i,(t=.one i∨(∃j,t=.two i j∨t=.two j i)∨∃is,t=.many is/\i∈is)->ao (bg Z (aG sc').length ks) i=none:=by
 unfold fe at h
 cases ht:fg sc' (aG sc'++aB sc') tg with
 | some t' =>
  rw [ht] at h
  cases h
  intro i z
  rcases z with z|z|⟨is,z,_⟩
  ·exact wY S ht Z i (.inl z)
  ·exact wY S ht Z i (.inr z)
  ·exact Qn z (qMB ht is)
 | none =>
  rw [ht] at h
  cases tg with
  | Tuple es kk p =>
   obtain⟨is,e1,e2⟩:=yad.mp (show (cm (dQ sc' (aG sc'++aB sc')) es).map Tg.many=some t from h)
   subst e2
   intro i z
   rcases z with z|⟨j,z|z⟩|⟨is',z,hi⟩
   ·cases z
   ·cases z
   ·cases z
   ·cases z;exact yG S Z e1 i hi
  | _=>cases h
end
end Dw
namespace Dw
open PySem PySem.Spec PyProof.Rows L2
section
variable {call:Nat->List D->Option R}{G:Gx}{k:Nat}{X:Cx}{sc:Scope}{N:List Str}
theorem tP {β:Type}:∀{l:List (Nat×β)}{a:Nat}{b:β},l.lookup a=some b->(a,b)∈l
 | (x,y)::r,a,b,h=>by
  rw [iT] at h
  split at h
  ·rename_i e;rw [beq_iff_eq] at e;cases h;subst e;exact bh
  ·exact bC _ (tP h)
theorem yY (env:Env):∀(l:List (Str×NameKind)) (acc:List (Str×Addr)) (p:Str×Addr),p∈d6 env l acc->p∈acc∨((p.1,NameKind.free)∈l/\p.2=(env.cells.lookup p.1).getD 0)
 | [],acc,p,h=>.inl h
 | (n,kd)::r,acc,p,h=>by
  have h:p∈d6 env r (if kd == .free then (n,(env.cells.lookup n).getD 0)::acc else acc):=h
  rcases yY env r _ p h with q|⟨q1,q2⟩
  ·split at q
   ·rename_i hk
    rcases yag.mp q with z|z
    ·subst z
     refine .inr ⟨?_,rfl⟩
     rw [beq_iff_eq] at hk
     subst hk
     exact bh
    ·exact .inl z
   ·exact .inl q
  ·exact .inr ⟨bC _ q1,q2⟩
theorem yb {K:Qb}{Ge:Gp}{H:Hp}{F:Fz}{Z:En}{τ:L2.St}(s:SR K Ge H F Z τ):∀{ks:List Nat}{ds:List D},md Z ks=some ds->∃vs,RDs K H F ds vs/\vs.length=ks.length/\∀(m j:Nat),ks[m]?=some j->∃v,vs[m]?=some v/\τ[j]?=some (some v)
 | [],ds,h=>by cases h;exact⟨[],rfl,rfl,λm j e=>by simp at e⟩
 | q::ks,ds,h=>by
  unfold md at h
  split at h
  ·rename_i d e
   obtain⟨ds',e1,e2⟩:=yad.mp h
   subst e2
   obtain⟨vs,h1,h2,h3⟩:=yb s e1
   obtain⟨v,t1,t2⟩:=s.val q d e
   refine⟨v::vs,⟨v,vs,rfl,t2,h1⟩,by simp [h2],λm j e=>?_⟩
   cases m with
   | zero=>simp at e;subst e;exact⟨v,rfl,t1⟩
   | succ m=>simp only [qR] at e ⊢;exact h3 m j e
  ·cases h
structure LmAt (X:Cx) (L:LamD):Prop where
 q:X.env.qual++"<lambda>"=L.q
 df:defaultsOf L.la X.env=([],[])
 cd:∃c,X.env.code=.ref c/\PySem.W.CodeHd X.base c L.P
 bm:X.base.BuiltinsAt X.mg L.P
 fn:∀y,X.fn y=true
variable (call X) in
def oE:List Expr->List C->Prop
 | [],[]=>True
 | e::es,c::cs=>dz e=true/\SndE call X e c/\oE es cs
 | _,_=>False
theorem zH {l:Expr}{tl:TE}(pl:PE X l tl) (hl:dz l=true):∀{es:List Expr}{cs:List C},oE call X es cs->∃tA:TA,PA X (es++[l]) (fun τ H Q=>tA τ H λvs H2=>tl τ H2 λvf H3=>Q (vs++[vf]) H3) /\
  (∀(Ge:Gp) (H:Hp) (F:Fz) (Z:En) (τ:L2.St) (ds:List D) (Q:List V->Hp->Prop),cY call Z cs=some ds->SR X.K Ge H F Z τ->(∀vs H' F',Gr H F H' F'->RDs X.K H' F' ds vs->Q vs H')->tA τ H Q)/\(es++[l]).all dz=true
 | [],[],_=>⟨vQ,fL pl il (bZ hl),λGe H F Z τ ds Q h hs k=>by cases h;exact k [] H F (Gr.refl hs.dom) rfl,by simp [hl]⟩
 | e::es,c::cs,⟨hn,⟨te,pe,qe⟩,h⟩=>by
  obtain⟨tA,p,q,a⟩:=zH pl hl h
  refine⟨wR te tA,fL pe p (bZ hn),λGe H F Z τ ds Q hd hs k=>?_,by simp [hn] at a ⊢;exact a⟩
  rw [dC] at hd
  obtain⟨r,er,hd⟩:=af hd
  obtain⟨ds',ed,hd⟩:=af hd
  cases hd
  refine qe Ge H F Z τ r _ er hs λv H1 F1 g rr=>?_
  obtain⟨F2,g2,rd⟩:=rr.fz g
  refine q Ge H1 F2 Z τ ds' _ ed (hs.grow g2) λvs H3 F3 g3 rs=>?_
  exact k (v::vs) H3 F3 (g2.trans g3) ⟨v,vs,rfl,RD.mono g3.keep rd,rs⟩
theorem qJY (g:XG call G k X sc N) {f:Str}{i j:Nat}{es:List Expr}{cs:List C}{ks:List Nat}{L:LamD}{p pos:Pos}(hf:G.defs.lookup f=some i) (hg:bt sc f=true) (hd:(f == ("__debug__":Str))=false) (he:oE call X es cs)
  (hj:lamX.lookup j=some L) (S:ScOk L.sc) (hk:cm (hZ sc N) (aB L.sc)=some ks) (hL:LmAt X L):SndE call X (.Call (.Name f p) (es++[.Lambda L.la L.e L.sc L.pos]) [] pos) (.lamc i cs j ks):=by
 obtain⟨a,fd,ps,hm,hkp,hb,hF,hl,_⟩:=(g.defs f i hf).ex
 obtain⟨cd,hcd,hhd⟩:=hL.cd
 have T:=zD g hk
 have pl:PE X (.Lambda L.la L.e L.sc L.pos) (ox X L.la L.e L.sc (d6 X.env L.sc.names []) L.pos L.P):=λpins s Z H Q I h=>qPN hL.df (yu L.sc X.env (mX I.ok T)) hcd hhd hL.bm pins s Z H Q I h
 have s3:dz (.Lambda L.la L.e L.sc L.pos)=true:=rfl
 obtain⟨tA,PA,qA,al⟩:=zH pl s3 he
 obtain⟨ea,er,eq⟩:=uZ (l:=es++[.Lambda L.la L.e L.sc L.pos]) (by simp)
 rw [eq] at PA al ⊢
 rw [fy,aI] at al
 refine⟨_,qKf (CX:=fw) (E:=E0) hF g.room (g.gl f hg) hm hkp hb (λ_ _ _ _ _ _ z=>z.elim) (λok p' hp=>?_) (λy b e=>?_) hL.fn hd (bZ al.1) (jW al.2) PA,λGe H F Z τ r Q hr hs kk=>?_⟩
 ·rcases yY X.env _ _ p' hp with z|⟨z1,z2⟩
  ·cases z
  ·obtain⟨c,hc⟩:=mX ok T _ z1 rfl
   have hc:X.env.cells.lookup p'.1=some c:=hc
   rw [z2,hc];rfl
 ·rcases tM X.env _ _ y b e with z|⟨z1,z2⟩
  ·cases z
  ·exact T y z1
 ·rw [qKR] at hr
  obtain⟨xs,ex,hr⟩:=af hr
  obtain⟨ds,ek,hr⟩:=af hr
  obtain⟨r',ec,hr⟩:=af hr
  unfold oj at hr
  split at hr
  ·rename_i nc
   cases hr
   refine qA Ge H F Z τ xs _ ex hs λvs0 H2 F2' g2' rd0=>?_
   have s2:=hs.grow g2'
   have hP:H2 L.P=some (.tab L.pos L.q):=s2.tbH (L.P,L.pos,L.q) (yaN.mpr ⟨(j,L),tP hj,rfl⟩)
   refine⟨by rw [hL.q];exact hP,λfa c oc fvs tk ctv H3 sub fresh hfa hca hod hov new cs ok=>?_⟩
   rw [hL.q] at hfa hov
   obtain⟨vs,v1s,v2s,v3s⟩:=yb s2 ek
   have g3:Gr H2 F2' H3 F2':=⟨sub,λ_ h=>h,λ_ h=>.inl h,λb e=>s2.dom b (by
    cases z:H2 b with
    | none=>rfl
    | some o=>rw [sub b o z] at e;cases e)⟩
   have non:∀a o,cs.lookup a=some o->H3 a=none:=ok.non
   have g4:=wD (F:=F2') g3.dom non
   obtain⟨kl,kg⟩:=lx hk
   have CI:cR (bR H3 cs) cs:=λa o e=>iL e
   have clo:RD X.K (bR H3 cs) F2' (.obj ⟨CL+j,[]⟩ ds) (.ref fa):=by
    refine⟨fa,vs,rfl,?_,RDs.mono (g3.trans g4).keep v1s⟩
    unfold ObjR
    rw [Ql (show CL<=CL+j from Nat.le_add_right _ _)]
    refine⟨rfl,L,_,_,ctv,c,_,oc,_,fvs,tk,cs,by rw [f6];exact hj,g4.same _ _ hfa,g4.same _ _ hca.choose_spec,hod,hov,ok.cell,CI,ok.has,ok.inj,λy hy=>mY X.env _ [] y (.inl (dg hy)),v2s.trans kl,λm y v e3 e4=>?_⟩
    obtain⟨jm,k1,k2⟩:=kg m y e3
    obtain⟨v',w1,w2⟩:=v3s m jm k1
    rw [e4] at w1
    cases w1
    obtain⟨b,hb'⟩:=mY X.env L.sc.names [] y (.inl (free_mem.mp (cj e3)))
    obtain⟨o,u,o1,o2,o3⟩:=ok.val jm y v b (by rw [g.hN];exact (kT k2).2.1) w2 (g.vis y (kT k2).2.2) hb'
    exact⟨b,o,u,hb',o1,o2,o3⟩
   refine⟨by have:=hl _ _ ec;rw [bf] at this ⊢;rw [RDs.length rd0];exact this,F2',xs++[.obj ⟨CL+j,[]⟩ ds],_,s2.tbH.same (g3.trans g4).same,g4.dom,RGs.of (RDs.append (RDs.mono (g3.trans g4).keep rd0) ⟨.ref fa,[],rfl,clo,rfl⟩),ec,λv H' F' g5 rr5 CI'=>?_⟩
   have g6:=qQC g3.dom non CI' g5
   exact kk v (bI H' cs) F' ((g2'.trans g3).trans g6) ((qPp non CI' nc rr5).back (g2'.trans g3).same)
  ·cases hr
end
end Dw
namespace Dw
open PySem PySem.Spec PyProof.Rows L2
section
variable {call:Nat->List D->Option R}{G:Gx}{k:Nat}{X:Cx}{sc sc':Scope}{N:List Str}{ks:List Nat}
structure Off (X:Cx) (pins:List (Addr×Obj)) (H:Hp) (C:Addr) (h:Heap):Prop where
 n:H C=none
 ne:C≠X.env.locals
 ab:X.s₀.heap.objs.size<=C
 cl:∀x c,X.env.cells.lookup x=some c->c≠C
 pn:∀p∈X.pn++pins,p.1≠C
 ns:∃m,h.Ns C m
theorem Off.let {s:Shared}{C:Addr}{h':Heap}(o:Off X pins H C s.heap) (I:Inv X pins τ H s) (hs:Heap.SameBut C s.heap h'):Inv X pins τ H { s with heap:=h' }:=
 I.turned (t':=s.toks) (λb ob hb e=>hs.extBut b ob hb e) o.n o.ne (.inr o.ab) o.cl o.pn
theorem Ay {K:Qb}{Ge:Gp}{H:Hp}{F:Fz}{Q:L2.St->Hp->Prop}{Z0:En}:∀{is:List Nat}{ds:List D}{vs:List V}{Z Z':En}{τ:L2.St},SR K Ge H F Z τ->SR K Ge H F Z0 τ->fq Z is ds=some Z'->RDs K H F ds vs->(∀i∈is,ao Z0 i=none)->(∀τ',SR K Ge H F Z' τ'->SR K Ge H F Z0 τ'->(∀j,ao Z0 j≠none->τ'[j]?=τ[j]?)->Q τ' H)->gL is vs τ H Q
 | [],ds,vs,Z,Z',τ,s,s0,hb,hv,hn,h=>by
  cases ds with
  | nil=>cases hb;have hv:vs=[]:=hv;exact⟨hv,h _ s s0 λ_ _=>rfl⟩
  | cons d r=>cases hb
 | i::is,ds,vs,Z,Z',τ,s,s0,hb,hv,hn,h=>by
  cases ds with
  | nil=>cases hb
  | cons d r =>
   obtain⟨v,w,rfl,h1,h2⟩:=hv
   have n1:=hn i bh
   exact⟨v,w,rfl,Ay (s.bind h1) (s0.skip n1) hb h2 (λj hj=>hn j (bC _ hj)) fun τ' q1 q2 q3=>h τ' q1 q2 λj hj=>(q3 j hj).trans (bS λz:i=j=>hj (by rw [<-z];exact n1))⟩
theorem qJE {K:Qb}{Ge:Gp}{H:Hp}{F:Fz}{Z Z':En}{τ:L2.St}{t:Tg}{d:D}{v:V}(s:SR K Ge H F Z τ) (hb:cN Z t d=some Z') (hv:RD K H F d v)
  (hn:∀i,(t=.one i∨(∃j,t=.two i j∨t=.two j i)∨∃is,t=.many is/\i∈is)->ao Z i=none):ni K t v τ H fun τ' H'=>H'=H/\SR K Ge H F Z' τ'/\SR K Ge H F Z τ'/\∀j,ao Z j≠none->τ'[j]?=τ[j]?:=by
 cases t with
 | one i =>
  cases hb
  have n1:=hn i (.inl rfl)
  exact⟨rfl,s.bind hv,s.skip n1,λj hj=>bS λz:i=j=>hj (by rw [<-z];exact n1)⟩
 | two i j =>
  unfold cN at hb
  split at hb
  ·rename_i heq;cases heq
  ·rename_i i' j' x y heq
   cases heq
   cases hb
   obtain⟨a,vs,rfl,hs,hr⟩:=hv
   obtain⟨v1,r,rfl,h1,w,r2,e2,h2,h3⟩:=hr
   have h3:r2=[]:=h3
   subst h3
   subst e2
   have n1:=hn i (.inr (.inl ⟨j,.inl rfl⟩))
   have n2:=hn j (.inr (.inl ⟨i,.inr rfl⟩))
   exact⟨a,[v1,w],rfl,hs,rfl,v1,[w],rfl,w,[],rfl,rfl,rfl,(s.bind h1).bind h2,(s.skip n1).skip n2,λq hq=>by
    rw [bS λz:j=q=>hq (by rw [<-z];exact n2),bS λz:i=q=>hq (by rw [<-z];exact n1)]⟩
  ·rename_i heq;cases heq
  ·cases hb
 | many is =>
  unfold cN at hb
  split at hb
  ·rename_i heq;cases heq
  ·rename_i heq;cases heq
  ·rename_i is' ds heq
   cases heq
   obtain⟨a,vs,rfl,hs,hr⟩:=hv
   exact⟨a,vs,rfl,hs,by rw [RDs.length hr];exact j0 hb,Ay s s hb hr (λi hi=>hn i (.inr (.inr ⟨_,rfl,hi⟩))) fun τ' s1 s2 s3=>⟨rfl,s1,s2,s3⟩⟩
  ·cases hb
noncomputable def ng (oc:Option (Expr×C)):List Expr:=oc.elim [] λp=>[p.1]
variable (call) in
def vR (oc:Option (Expr×C)) (Z:En):Option R:=oc.elim (some (false,.bl true)) λp=>aa call Z p.2
variable (call) in
def jC (oc:Option (Expr×C)) (e:C) (Z:En) (tg:Tg) (its:List D):Option (List D):=oc.elim (cB call e Z tg its) λp=>iN call p.2 e Z tg its
theorem qKS {oc:Option (Expr×C)}{e:C}{Z:En}{tg:Tg}:jC call oc e Z tg []=some []:=by cases oc<;>rfl
theorem qIK {oc:Option (Expr×C)}{e:C}{Z:En}{tg:Tg}{x:D}{r:List D}:jC call oc e Z tg (x::r)=(cN Z tg x).bind fun Z1=>(vR call oc Z1).bind (rg ((aa call Z1 e).bind λy=>(jC call oc e Z tg r).bind λys=>some (y.2::ys)) (jC call oc e Z tg r)):=by cases oc<;>rfl
def qu (prog:Program) (w:World) (A:Around) (env:Env) (oc:Option (Expr×C)) (P:Bool->Shared->Prop) (E:Value->Shared->Prop) (s:Shared):Prop:=oc.elim (P true s) λp=>wpAny (model prog w) A (isTrue p.1 env (eval p.1 env)) P E s
theorem qOQ {oc:Option (Expr×C)}{pn:List (Addr×Obj)}{τ:L2.St}{H:Hp}{s:Shared}{Ge:Gp}{F:Fz}{Z:En}{x b:Bool}{P:Bool->Shared->Prop}{E:Value->Shared->Prop}(I:Inv X pn τ H s) (sn:∀p,oc=some p->dj call X p.1 p.2) (h:vR call oc Z=some (x,.bl b)) (r:SR X.K Ge H F Z τ) (ex:X.xe=λ_ _=>False)
  (f:∀s' H' F',Inv X pn τ H' s'->Gr H F H' F'->P b s'):qu X.prog X.w X.A X.env oc P E s:=by
 cases oc with
 | none=>cases h;exact f s H F I (.refl r.dom)
 | some p =>
  obtain⟨tt,pt,qt⟩:=sn p rfl
  have q:=pt pn s τ H (λc H'=>∃F',Gr H F H' F'/\c=b) I (qt Ge H F Z τ x b _ h r λH' F' g=>⟨F',g,rfl⟩)
  rw [ex] at q
  exact Qe q (λc s' ⟨H',I',F',g,e⟩=>e▸f s' H' F' I' g) λ_ _ z=>z.elim
theorem qKE {prog:Program}{w:World}{A:Around}{elt tg iter:Expr}{oc:Option (Expr×C)}{sc:Scope}{pos:Pos}{it acc:Value}{env:Env}{s:Shared}{Rs:Result->Shared->Prop}(J:Nat->Shared->Prop) {E:Value->Shared->Prop}(hE:E=notedBy (model prog w) A env λe s'=>Rs (.error e) s')
  (turn:∀n s,J n s->wpAny (model prog w) A (pyNext it) (λr s1=>match r with
   | none=>Rs (.ok .next) s1
   | some v=>wpAny (model prog w) A (letOwnedTupleGo tg it v) (λ_ s0=>wpAny (model prog w) A (assign tg env v) (λ_ s2=>qu prog w A env oc (λok s3=>if ok=true then wpAny (model prog w) A (eval elt env) (λx s4=>wpAny (model prog w) A (PySem.call (.builtin "list.append") [acc,x]) (λ_ s5=>∃m,m<n/\J m s5) E s4) E s3 else ∃m,m<n/\J m s3) E s2) E s0) E s1) E s)
  (n:Nat) (h:J n s):codeAny (model prog w) A (.compLoop (.ListComp elt [⟨tg,iter,ng oc,0⟩] sc pos) 0 it acc env) Rs s:=by
 subst hE
 cases oc with
 | none=>exact PySem.W.kcp_loop J turn n h
 | some p=>exact PySem.W.kct_loop J turn n h
structure CoW (call:Nat->List D->Option R) (G:Gx) (k:Nat) (X:Cx) (sc sc':Scope) (N:List Str) (elt tg iter:Expr) (oc:Option (Expr×C)) (t:Tg) (ks:List Nat) (ce:C) (b:Bool) (src:En->Option (List D)):Prop where
 S:ScOk sc'
 ht:fe sc' (aG sc'++aB sc') tg=some t
 hk:cm (hZ sc N) (aB sc')=some ks
 he:∀X':Cx,XG call G k X' sc' (aG sc'++aB sc')->SndE call X' elt ce
 nh:∀p,oc=some p->∀X':Cx,XG call G k X' sc' (aG sc'++aB sc')->dj call X' p.1 p.2
 hi:oA X tg iter b src
 hf:∀x,foldedSetIterable iter X.env x=pure x
inductive CoI (call:Nat->List D->Option R) (G:Gx) (k:Nat) (X:Cx) (sc sc':Scope) (N:List Str) (elt:Expr) (gens:List Comprehension) (c:C):Prop
 | mk (tg iter:Expr) (oc:Option (Expr×C)) (t:Tg) (ks:List Nat) (ce:C) (b:Bool) (src:En->Option (List D)) (e:gens=[⟨tg,iter,ng oc,0⟩]) (w:CoW call G k X sc sc' N elt tg iter oc t ks ce b src)
   (hc:∀Z r,aa call Z c=some r->∃its ys,src Z=some its/\jC call oc ce (bg Z (aG sc').length ks) t its=some ys/\r=(true,.lst ys)/\((b=true->its.length<=lim)->its.length<=lim)) (nv:∀i,c≠.v i)
inductive LI (call:Nat->List D->Option R) (X X':Cx) (pins:List (Addr×Obj)) (tn:Nat->Heap->Prop) (fp:List Addr) (H2:Hp) (F2:Fz) (Da:Addr) (its ys:List D) (oc:Option (Expr×C)) (ce:C) (t:Tg) (Z:En) (Gh:Gp) (n:Nat) (s:Shared):Prop
 | mk (i:Nat) (τ:L2.St) (H:Hp) (F:Fz) (zs:List V) (y1 y2:List D) (I:Inv X' (X.pn++pins) τ H s) (st:tn i s.heap) (fr:∀c∈fp,H c=none) (gr:Gr H2 F2 H F) (hd:H Da=some (.lst zs)) (nf:¬F Da) (rd:RDs X.K H F y1 zs) (hi:i<=its.length) (hn:n=its.length - i) (he:jC call oc ce Z t (its.drop i)=some y2) (hy:ys=y1++y2) (hz:zs.length<=i) (sr:SR X.K ⟨Gh.h,none,Gh.tb⟩ H F Z τ)
  (nD:∀j d a,ao Z j=some (true,d)->τ[j]?=some (some (.ref a))->a≠Da)
theorem y7 (g:XG call G k X sc N) {elt tg iter:Expr}{oc:Option (Expr×C)}{t:Tg}{ce:C}{b:Bool}{src:En->Option (List D)}{pos p':Pos}(w:CoW call G k X sc sc' N elt tg iter oc t ks ce b src)
  (I:Inv X pins τ H s) (hS:SR X.K Ge H F Z τ) (hsrc:src Z=some its) (hev:jC call oc ce (bg Z (aG sc').length ks) t its=some ys) (hlen:(b=true->its.length<=lim)->its.length<=lim)
  (hend:∀(D C:Addr) (H':Hp) (F':Fz) (s':Shared),Gr H F H' F'->RR X.K H H' F' (true,.lst ys) (.ref D)->Inv X pins τ H' s'->Off X pins H' C s'.heap->compPost (model X.prog X.w) X.A X.xe use Qv (.ref D) C (.ok .next) s') :
  wpAny (model X.prog X.w) X.A (comprehension (.ListComp elt [⟨tg,iter,ng oc,0⟩] sc' pos) sc' X.env p' (newList []) false (eval iter X.env) use) Qv X.xe s:=by
 obtain⟨S,ht,hk,he,nh,hi,hfs⟩:=w
 have T:=zD g hk
 have hcl:=mX I.ok T
 refine wpAny_comprehension_free (use:=use) rfl hfs (yu sc' X.env hcl) S.kind (λx hx e=>by obtain⟨n,kk⟩:=x;have e:kk=.local:=e;subst e;exact mQ S.nd hx) ?_
 obtain⟨wi,pi,qi⟩:=hi
 refine aw (pi pins s τ H (λJ H'=>∃F',Gr H F H' F'/\oC X.K J H' F' its/\its.length<=lim) I (qi Ge H F Z τ its _ hsrc hS λJ H' F' g1 ok hl=>⟨F',g1,ok,hlen hl⟩)) λv s1 h1=>aw h1 λitv s2 h2=>?_
 obtain⟨it,fp,tn,J,H2,rfl,I2,Tn,st2,f2,F2,g2,ok2,hl2⟩:=h2
 refine wpAny_newObj_type (wpAny_newFunctionEnv S.cell (by intro y hy;simp at hy) (λh3 hns hsb=>?_) S.kind)
 dsimp only at hns hsb ⊢
 have hD:H2 s2.heap.objs.size=none:=I2.hok.fresh (ar _)
 generalize hDe:s2.heap.objs.size=Da at hns hsb hD ⊢
 have hD0:H Da=none:=g2.same.free hD
 have lt2:∀{c:Addr} {o:Obj},s2.heap.get? c=some o->c<Da:=λe=>by rw [<-hDe];exact Qi e
 have I3:Inv X pins τ (av H2 Da (.lst [])) { s2 with heap:=s2.heap.push { cls:=.type "list",dict:=none,data:=.seq ([]:List Value).toArray } }:=by
  subst hDe
  exact I2.laid (t':=s2.toks) (λc u e=>Qg _ e) (ar _) ⟨fx _,[],0,.nil,Qh _ rfl⟩
 generalize hHp:s2.heap.push { cls:=.type "list",dict:=none,data:=.seq ([]:List Value).toArray }=hp at hns hsb I3 ⊢
 have hCs:hp.objs.size=Da+1:=by rw [<-hHp,Heap.size_push,hDe]
 have kp:∀c o,hp.get? c=some o->h3.get? c=some o:=λc o e=>hsb.extBut c o (bK (Qi e)) (Qg _ e)
 have lfp:∀c∈fp,c<Da:=λc hc=>by obtain⟨o,e,_⟩:=Tn.obj _ _ st2 c hc;exact lt2 e
 have f3:∀c∈fp,dS X pins (av H2 Da (.lst [])) c:=λc hc=>⟨by rw [ax (bK (lfp c hc))];exact (f2 c hc).1,(f2 c hc).2⟩
 have lf3:∀c∈fp,c<({ s2 with heap:=hp }:Shared).heap.objs.size:=λc hc=>by show c<hp.objs.size;rw [hCs];exact Nat.lt_succ_of_lt (lfp c hc)
 obtain⟨kl,kg⟩:=lx hk
 have I4:Inv (kW X sc' (aG sc'++aB sc') hp.objs.size { s2 with heap:=hp } (av H2 Da (.lst [])) fp) (X.pn++pins) (hX τ (aG sc').length ks) (av H2 Da (.lst [])) { s2 with heap:=h3,toks:=s2.toks+([]:List (Str×Value)).length }:=by
  refine qKW (N':=aG sc'++aB sc') I3 S T f3 lf3 kp hns _ (by rw [qJG,bf,kl]) (λi x v e1 e2=>?_) (qOB g hk)
  obtain⟨m,j,rfl,q1,q2⟩:=qJH e2
  rw [gE (by omega)] at e1
  have e1':(aB sc')[m]?=some x:=by rw [<-e1];congr 1;omega
  obtain⟨j',r1,r2⟩:=kg m x e1'
  rw [q1] at r1
  cases r1
  exact⟨free_mem.mp (cj e1'),j,by rw [g.hN];exact (kT r2).2.1,q2⟩
 have g':XG call G k (kW X sc' (aG sc'++aB sc') hp.objs.size { s2 with heap:=hp } (av H2 Da (.lst [])) fp) sc' (aG sc'++aB sc'):=qSA g S
 have se:=he _ g'
 have sn:=λp e=>nh p e _ g'
 have pg:=sY g' ht
 have tow:=qMA (ks:=ks) S ht Z
 generalize hX':kW X sc' (aG sc'++aB sc') hp.objs.size { s2 with heap:=hp } (av H2 Da (.lst [])) fp=X' at I4 g' se sn pg
 have eP:X'.prog=X.prog:=by rw [<-hX'];rfl
 have ew:X'.w=X.w:=by rw [<-hX'];rfl
 have eK:X'.K=X.K:=by rw [<-hX'];rfl
 have eA:X'.A=X.A:=by rw [<-hX'];rfl
 have eE:X'.env=compEnvC sc' (d6 X.env sc'.names []) hp.objs.size X.env:=by rw [<-hX'];rfl
 have ex:X'.xe=λ_ _=>False:=g'.xe
 have fpX:∀{H':Hp},(∀c∈fp,H' c=none)->∀c∈fp,dS X' (X.pn++pins) H' c:=λ{H'} hn c hc=>by
  obtain⟨a0,a1,a2,a3,a4,a5⟩:=f3 c hc
  rw [<-hX']
  refine⟨hn c hc,bK (lf3 c hc),λhs=>?_,.inl hc,λx cc e=>a4 x cc (jJ hcl e),λp hp=>a5 p hp⟩
  rcases yag.mp (I3.stkSub c hs) with z|z
  ·exact a1 z
  ·exact a2 z
 have loop:codeAny (model X.prog X.w) X.A (.compLoop (.ListComp elt [⟨tg,iter,ng oc,0⟩] sc' pos) 0 (.ref it) (.ref Da) (compEnvC sc' (d6 X.env sc'.names []) hp.objs.size X.env)) (compPost (model X.prog X.w) X.A X.xe use Qv (.ref Da) hp.objs.size) { s2 with heap:=h3,toks:=s2.toks+([]:List (Str×Value)).length }:=by
  refine qKE (LI call X X' pins tn fp H2 F2 Da its ys oc ce t (bg Z (aG sc').length ks) Ge) rfl ?_ its.length ?_
  ·rintro n s' ⟨i,τ',H',F',zs,y1,y2,I',st',fr',gr',hd',nf',rd',hi,rfl,hev',hyy,hzl,sr',nD'⟩
   have hx':∀{α:Type} {tr:Sem α} {Q1:α->Shared->Prop} {E1:Value->Shared->Prop} {s0:Shared},wpAny (model X'.prog X'.w) X'.A tr Q1 X'.xe s0->wpAny (model X.prog X.w) X.A tr Q1 E1 s0:=λ{α tr Q1 E1 s0} h=>by
    rw [eP,ew,eA,ex] at h
    exact Qe h (λ_ _ z=>z) λ_ _ z=>z.elim
   have kd:Keep H2 F2 H' F':=gr'.keep
   obtain⟨okI,okS⟩:=ok2 H' F' gr'
   by_cases hlt:i<its.length
   ·have hdi:its[i]?=some its[i]:=cz hlt
    obtain⟨go,yl⟩:=okI i _ hdi
    have hdr:its.drop i=its[i]::its.drop (i+1):=kD hlt
    rw [hdr,qIK] at hev'
    obtain⟨Z1,b1,hev'⟩:=af hev'
    obtain⟨⟨x0,d0⟩,b0,hev'⟩:=af hev'
    have ti:=Tn.item X' eP ew eK g'.calm i (X.pn++pins) s' τ' H' (notedBy (model X.prog X.w) X.A (compEnvC sc' (d6 X.env sc'.names []) hp.objs.size X.env) λe s'=>compPost (model X.prog X.w) X.A X.xe use Qv (.ref Da) hp.objs.size (.error e) s') I' (fpX fr') st' go
    rw [eA] at ti
    refine aw ti λr s4 ⟨u,hr,h4⟩=>?_
    subst hr
    refine aw h4 λ_ s5 ⟨x,H5,I5,r5,y5,st5,fr5⟩=>?_
    obtain⟨F5,g5,rd5⟩:=yl x H5 y5
    have I5':=I5.pinned (fpX fr5) (Tn.obj _ _ st5)
    have sr5:=sr'.grow g5
    rw [<-eE]
    have a6:=pg _ s5 τ' H5 x u (fun τ6 H6=>H6=H5/\SR X.K ⟨Ge.h,none,Ge.tb⟩ H5 F5 Z1 τ6/\SR X.K ⟨Ge.h,none,Ge.tb⟩ H5 F5 (bg Z (aG sc').length ks) τ6/\∀j,ao (bg Z (aG sc').length ks) j≠none->τ6[j]?=τ'[j]?) I5' r5 (by
     rw [eK]
     exact qJE sr5 b1 rd5 tow)
    refine hx' (aw a6 λ_ s6 ⟨τ6,H6,I6,e6,sr6,sc6,sm6⟩=>?_)
    subst e6
    obtain⟨b00,rfl⟩:∃b00,d0=.bl b00:=by cases d0<;>first|exact⟨_,rfl⟩|cases hev'
    have tx:∀{P:Bool->Shared->Prop} {E:Value->Shared->Prop},qu X'.prog X'.w X'.A X'.env oc P E s6->qu X.prog X.w X.A X'.env oc P E s6:=by rw [eP,ew,eA];exact λh=>h
    refine tx (qOQ I6 sn b0 (by rw [eK];exact sr6) g'.xe λs6b H6b F6b I6b g6b=>?_)
    have hd6:H6b Da=some (.lst zs):=g6b.same _ _ (g5.same _ _ hd')
    have g56:Gr H' F' H6b F6b:=g5.trans g6b
    have nf6:¬F6b Da:=λz=>by
     rcases g56.new Da z with q|q
     ·exact nf' q
     ·rw [hd'] at q;cases q
    cases b00 with
    | false =>
     rw [Qm (by decide)]
     refine⟨its.length - (i+1),by omega,i+1,τ6,H6b,F6b,zs,y1,y2,I6b.unpinned,?_,?_,gr'.trans g56,hd6,nf6,RDs.mono g56.keep rd',hlt,rfl,hev',hyy,by omega,sc6.grow g6b,λj d a h1 h2=>?_⟩
     ·exact Tn.keep _ _ _ st5 λc hc o e=>(I6b.pin (c,o) (cM _ (cM _ (lu hc e)))).1
     ·intro c hc
      obtain⟨o,e,d⟩:=Tn.obj _ _ st5 c hc
      exact (I6b.pin (c,o) (cM _ (cM _ (lu hc e)))).2.1
     ·exact nD' j d a h1 (by rw [<-sm6 j (by rw [h1];simp)];exact h2)
    | true =>
    rw [Ql rfl]
    obtain⟨y,b2,hev'⟩:=af hev'
    obtain⟨ys',b3,hev'⟩:=af hev'
    have hys:y2=y.2::ys':=(fX hev').symm
    replace sr6:=sr6.grow g6b
    replace sc6:=sc6.grow g6b
    replace I6:=I6b
    replace hd':=hd6
    replace g5:=g56
    clear hd6 g56
    obtain⟨te,pe,qe⟩:=se
    have a7:=pe _ s6b τ6 H6b (λv H7=>∃F7,Gr H6b F6b H7 F7/\RR X.K H6b H7 F7 y v) I6 (qe ⟨Ge.h,none,Ge.tb⟩ H6b F6b Z1 τ6 y _ b2 (by rw [eK];exact sr6) λv H7 F7 g7 rr=>⟨F7,g7,by rw [<-eK];exact rr⟩)
    refine hx' (aw a7 λvv s7 ⟨v,H7,I7,r7,F7,g7,rr7⟩=>?_)
    obtain⟨F8,g8,rd8⟩:=rr7.fz g7
    have hd7:H7 Da=some (.lst zs):=g7.same _ _ hd'
    have nf8:¬F8 Da:=λz=>by
     rcases g8.new Da z with q|q
     ·exact nf6 q
     ·rw [hd'] at q;cases q
    have a8:=Ab (X:=X') _ s7 τ6 H7 (.ref Da) [v] (.ref Da) [vv] (λ_ H9=>H9=av H7 Da (.lst (zs++[v]))) I7 rfl (.cons r7 .nil) ⟨Da,zs,v,rfl,rfl,hd7,bG (by omega) hl2,rfl⟩
    refine hx' (aw a8 λ_ s9 ⟨_,H9,I9,_,e9⟩=>?_)
    subst e9
    have k8:Keep H7 F8 (av H7 Da (.lst (zs++[v]))) F8:=⟨λp xs h=>by
     have ne:p≠Da:=λz=>by
      subst z
      rcases h with h|⟨o,h⟩<;>(rw [hd7] at h;cases h)
     rcases h with h|⟨o,h⟩
     ·exact .inl (by rw [ax ne];exact h)
     ·exact .inr ⟨o,by rw [ax ne];exact h⟩,λp xs f h=>by
     have ne:p≠Da:=λz=>by subst z;exact nf8 f
     refine⟨f,?_⟩
     rcases h with h|⟨o,h⟩
     ·exact .inl (by rw [ax ne];exact h)
     ·exact .inr ⟨o,by rw [ax ne];exact h⟩,λp C dx fs h=>by rw [ax (λz=>by subst z;rw [hd7] at h;cases h)];exact h,λp o u h=>by rw [ax (λz=>by subst z;rw [hd7] at h;cases h)];exact h⟩
    have g58:Gr H' F' H7 F8:=g5.trans g8
    have gall:Gr H2 F2 (av H7 Da (.lst (zs++[v]))) F8:=by
     have gg:=gr'.trans g58
     refine⟨λc o e=>?_,gg.sub,gg.new,λc e=>?_⟩
     ·rw [ax (cf e hD)];exact gg.same c o e
     ·by_cases z:c=Da
      ·subst z;rw [dJ] at e;cases e
      ·rw [ax z] at e;exact gg.dom c e
    refine⟨its.length - (i+1),by omega,i+1,τ6,av H7 Da (.lst (zs++[v])),F8,zs++[v],y1++[y.2],ys',I9.unpinned,?_,?_,gall,dJ,nf8,?_,hlt,rfl,b3,(by rw [hyy,hys,bw];rfl),(by simp;omega),?_,λj d a h1 h2=>?_⟩
    ·exact Tn.keep _ _ _ st5 λc hc o e=>(I9.pin (c,o) (cM _ (cM _ (lu hc e)))).1
    ·intro c hc
     obtain⟨o,e,d⟩:=Tn.obj _ _ st5 c hc
     exact (I9.pin (c,o) (cM _ (cM _ (lu hc e)))).2.1
    ·exact RDs.append (RDs.mono (g58.keep.trans k8) rd') ⟨v,[],rfl,RD.mono k8 rd8,rfl⟩
    ·have sc8:=sc6.grow g8
     refine sc8.keep k8 ?_ gall.dom (λj d hj hd=>?_) (λj m ks' hj=>?_) (λp d hp=>nomatch hp)
     ·intro c o e
      have h7:=sc8.ent c o e
      have:c≠Da:=λz=>by
       subst z
       have:=hS.ent c o e
       rw [hD0] at this
       cases this
      rw [ax this];exact h7
     ·obtain⟨a,ds,vs,q1,q2,q3,q4,q5,q6⟩:=sc8.own j d hj hd
      have ne:a≠Da:=nD' j d a hj (by rw [<-sm6 j (by rw [hj];simp)];exact q2)
      exact⟨a,ds,vs,q1,q2,q3,q4,by rw [ax ne];exact q5,RDs.mono k8 q6⟩
     ·obtain⟨a,q1,q2,q3,q4⟩:=sc8.dct j m ks' hj
      have ne:a≠Da:=nD' j _ a hj (by rw [<-sm6 j (by rw [hj];simp)];exact q1)
      exact⟨a,q1,q2,by rw [ax ne];exact q3,q4⟩
    ·exact nD' j d a h1 (by rw [<-sm6 j (by rw [h1];simp)];exact h2)
   ·have hin:i=its.length:=by omega
    subst hin
    have td:=Tn.done X' eP ew eK g'.calm its.length (X.pn++pins) s' τ' H' (notedBy (model X.prog X.w) X.A (compEnvC sc' (d6 X.env sc'.names []) hp.objs.size X.env) λe s'=>compPost (model X.prog X.w) X.A X.xe use Qv (.ref Da) hp.objs.size (.error e) s') I' (fpX fr') st' okS
    rw [eA] at td
    refine aw td λr s4 ⟨hr,I4'⟩=>?_
    subst hr
    rw [List.drop_of_length_le (ar _),qKS] at hev'
    have hyl:y2=[]:=(fX hev').symm
    subst hyl
    rw [cL] at hyy
    subst hyy
    have Ib:=I4'.base
    rw [<-hX'] at Ib
    have Io:Inv X pins τ H' s4:=by
     refine I3.call' (ch:=fp) (by have:=I4'.os;rw [<-hX'] at this;exact this) Ib (by have:=I4'.hok;rw [eP,ew] at this;exact this) I4'.bare λc hc=>?_
     obtain⟨a0,a1,a2,a3,a4,a5⟩:=f3 c hc
     exact⟨a3,a1,a4,a5⟩
    refine hend Da hp.objs.size H' F' s4 (g2.trans gr') ⟨Da,ys,zs,rfl,rfl,hD0,nf',hd',rd'⟩ Io ⟨?_,iD I3.lt,I3.sz,λx c e=>?_,λp hp=>?_,?_⟩
    ·have:=I4'.free
     rw [eE] at this
     exact this
    ·obtain⟨v,q⟩:=I3.cell x c e
     exact bK q.lt
    ·exact bK (Qi (I3.pin p hp).1)
    ·obtain⟨m,hm,_⟩:=I4'.loc
     rw [eE] at hm
     exact⟨m,hm⟩
  ·refine⟨0,hX τ (aG sc').length ks,av H2 Da (.lst []),F2,[],[],ys,I4,?_,λc hc=>(f3 c hc).1,Gr.laid g2.dom hD,dJ,g2.dom Da hD,rfl,fx _,rfl,by simpa using hev,rfl,ar _,?_,λj d a h1 h2=>?_⟩
   ·exact Tn.keep _ _ _ st2 λc hc o e=>kp c o (by rw [<-hHp];exact Qg _ e)
   ·exact qJU S hk _ (hS.grow (g2.trans (Gr.laid g2.dom hD)))
   ·obtain⟨m,j',rfl,q1,q2⟩:=jY h1
    obtain⟨a',u',p2,_,p5⟩:=hS.addr q2
    rw [lg q1 p2] at h2
    cases h2
    exact cf p5 hD0
 exact codeAny_compStart_list loop (Tn.self _ 0 _ _ _ (Tn.keep _ _ _ st2 λc hc o e=>kp c o (by rw [<-hHp];exact Qg _ e)) loop)
end
end Dw
namespace Dw
open PySem PySem.Spec PyProof.Rows L2
section
variable {call:Nat->List D->Option R}{G:Gx}{k:Nat}{X:Cx}{sc sc':Scope}{N:List Str}{ks:List Nat}
theorem qJ0 (g:XG call G k X sc N) {elt:Expr}{gens:List Comprehension}{c:C}{pos:Pos}(q:CoI call G k X sc sc' N elt gens c):SndE call X (.ListComp elt gens sc' pos) c:=by
 obtain⟨tg,iter,oc,t,ks,ce,b,src,rfl,w,hc,nv⟩:=q
 refine⟨fun τ H Q=>∃Ge F Z r,aa call Z c=some r/\SR X.K Ge H F Z τ/\∀v H' F',Gr H F H' F'->RR X.K H H' F' r v->Q v H',λpins s τ H Q I ⟨Ge,F,Z,r,h1,h2,h3⟩=>?_,λGe H F Z τ r Q h1 h2 h3=>⟨Ge,F,Z,r,h1,h2,h3⟩⟩
 obtain⟨its,ys,e1,e2,rfl,e4⟩:=hc Z r h1
 rw [eval_ListComp]
 refine y7 g w (use:=none) I h2 e1 e2 e4 λDa C H' F' s' gr rr I' o=>?_
 obtain⟨m,hm⟩:=o.ns
 exact⟨m,hm,λh' hs=>⟨.ref Da,H',o.let I' hs,rfl,h3 _ H' F' gr rr⟩⟩
theorem qLf (g:XG call G k X sc N) {elt:Expr}{gens:List Comprehension}{c:C}{pos py spos:Pos}{x:Str}{i:Nat}(q:CoI call G k X sc sc' N elt gens c)
  (hx:(sc.names.lookup x == some .local||sc.names.lookup x == some .cell)=true) (hsl:bF N x=some i) (hsw:swapsWith (.ListComp elt gens sc' pos) (some (.Name x py)) spos.line X.env=pure true) :
  PS X (.Assign [.Name x py] (.ListComp elt gens sc' pos) spos) (λDn τ H=>∃Ge F Z r,aa call Z c=some r/\SR X.K Ge H F Z τ/\∀v H' F',Gr H F H' F'->RR X.K H H' F' r v->Dn.nx (τ.set i (some v)) H'):=by
 obtain⟨tg,iter,oc,t,ks,ce,b,src,rfl,w,hc,nv⟩:=q
 intro pins s τ H Dn I ⟨Ge,F,Z,r,h1,h2,h3⟩
 obtain⟨its,ys,e1,e2,rfl,e4⟩:=hc Z r h1
 rw [exec_Assign_Name_used _ _ _ _ hsw]
 refine Qc (wpAny_standAt (Qc ?_))
 obtain⟨l1,l2⟩:=jM g hx
 refine Qc (y7 g (p':=firstIterPos [⟨tg,iter,ng oc,0⟩] pos) w (use:=some (assign (.Name x py) X.env)) I h2 e1 e2 e4 λDa C H' F' s' gr rr I' o=>?_)
 have q:=h3 _ H' F' gr rr
 refine wpAny_assign_Name (Ag (v:=.ref Da) I' (by rw [g.hN];exact g.nd) (by rw [g.hN];exact iv hsl) l1 rfl (λs2 I2 hch=>?_) l2)
 obtain⟨m,hm⟩:=o.ns
 obtain⟨a,hsb,ha⟩:=hch
 have hCa:C≠a:=by
  rcases ha with e|e
  ·rw [e];exact o.ne
  ·exact (o.cl _ _ e).symm
 have o2:Off X pins H' C s2.heap:=⟨o.n,o.ne,o.ab,o.cl,o.pn,⟨m,hm.sameBut hsb hCa⟩⟩
 exact⟨m,hm.sameBut hsb hCa,λh' hs=>Qd (Qd ⟨_,H',o2.let I2 hs,q⟩)⟩
theorem ou {n:Nat}{e:Expr}{c:C}(h:cE G n sc N e=some c):pI e/\dz e=true/\(∀env x,foldedSetIterable e env x=pure x)/\∀op,behindInMarks op e=false:=by
 cases n with
 | zero=>cases h
 | succ n=>cases e<;>first|exact⟨λo i=>rfl,rfl,λ_ _=>rfl,λ_=>rfl⟩|(cases h;done)|(cases n<;>cases h)
theorem qKb {n:Nat}{e:Expr}{c:C}(h:cE G n sc N e=some c):pI e:=(ou h).1
theorem gW {n:Nat}{e:Expr}{c:C}(h:cE G n sc N e=some c):dz e=true:=(ou h).2.1
theorem sU {n:Nat}{e:Expr}{c:C}(h:cE G n sc N e=some c) (env:Env):∀x,foldedSetIterable e env x=pure x:=(ou h).2.2.1 env
theorem qNJ {n:Nat}{e:Expr}{c:C}(h:cE G n sc N e=some c):∀op,behindInMarks op e=false:=(ou h).2.2.2
theorem qKH {op:CmpOp}{b:Expr}{q:Bool×Const}(h:n6 op b=some q):∃j p,b=.Constant q.2 j p/\op=if q.1 then .IsNot else .Is:=by
 cases b with
 | Constant c j p=>cases op<;>cases h<;>exact⟨j,p,rfl,rfl⟩
 | _=>cases h
theorem qJ4 {b:Expr}{q:Option Expr×Option Expr}(h:ow b=some q):∃p,b=.Slice q.1 q.2 none p:=by
 cases b with
 | Slice lo hi st p=>cases st<;>cases h;exact⟨p,rfl⟩
 | _=>cases h
noncomputable def AM:C->Bool
 | .v _=>true
 | _=>false
theorem iR {c:C}(h:AM c=false) (i:Nat):c≠.v i:=by rintro rfl;cases h
structure Ok (call:Nat->List D->Option R) (X:Cx) (e:Expr) (c:C):Prop where
 he:SndE call X e c
 hp:dU call X e c
 ht:dj call X e c
 hg:oD call X e c
 nv:(∃x p,e=.Name x p)∨∀i,c≠.v i
theorem Ok.of (h:SndE call X e c) (ht:dj call X e c) (hc:∀i,c≠.v i):Ok call X e c:=⟨h,h.look hc,ht,h.lend hc,.inr hc⟩
theorem fS {e:Expr}{c:C}(h:SndE call X e c) (t:∀whole,isTrue e X.env whole=(do let v <-whole;standAt e.pos;holding [v] (truthy v))) (hc:AM c=false):Ok call X e c:=.of h (h.test t) (iR hc)
structure AllE (call:Nat->List D->Option R) (G:Gx) (k n:Nat):Prop where
 e:∀(X:Cx) (sc:Scope) (N:List Str) (e:Expr) (c:C),XG call G k X sc N->cE G n sc N e=some c->Ok call X e c
 f:∀(X:Cx) (sc:Scope) (N:List Str) (f:Str) (es:List Expr) (c:C) (p pos:Pos),XG call G k X sc N->bt sc f=true->fN f=true->oY G n sc N f es=some c->SndE call X (.Call (.Name f p) es [] pos) c/\∀i,c≠.v i
 a:∀(X:Cx) (sc:Scope) (N:List Str) (es:List Expr) (cs:List C),XG call G k X sc N->fu G n sc N es=some cs->ju call X es cs/\ja call X es cs/\es.all dz=true/\cs.length=es.length
 o:∀(X:Cx) (sc:Scope) (N:List Str) (e:Option Expr) (c:Option C),XG call G k X sc N->cO G n sc N e=some c->me call X e c
 x:∀(X:Cx) (sc:Scope) (N:List Str) (e:Expr) (c:C),XG call G k X sc N->cX G n sc N e=some c->Ok call X e c/\∀i,c≠.v i
 ga:∀(X:Cx) (sc:Scope) (N:List Str) (es:List Expr) (cs:List C),XG call G k X sc N->fu G n sc N es=some cs->mj call X es cs
 w:∀(X:Cx) (sc:Scope) (N:List Str) (es:List Expr) (c:C),XG call G k X sc N->jv G n sc N es=some c->SndW call X .And es c
 v:∀(X:Cx) (sc:Scope) (N:List Str) (es:List Expr) (c:C),XG call G k X sc N->j9 G n sc N es=some c->SndW call X .Or es c
theorem qLi:AllE call G k 0:=by
 constructor
 ·intro X sc N e c _ h;cases h
 ·intro X sc N f es c p pos _ _ _ h;cases h
 ·intro X sc N e c _ h;cases h
 ·intro X sc N e c _ h;cases h
 ·intro X sc N e c _ h;cases h
 ·intro X sc N e c _ h;cases h
 ·intro X sc N e c _ h;cases h
 ·intro X sc N e c _ h;cases h
inductive Srk (sc:Scope):Expr->Sr->Prop where
 | seq (e:Expr):Srk sc e (.seq e)
 | rng (x:Str) (p:Pos) (as:List Expr) (pos:Pos):bt sc x=true->x=Qa "range"->(as.length=1∨as.length=2∨as.length=3)->Srk sc (.Call (.Name x p) as [] pos) (.rng as)
 | zip (x:Str) (p:Pos) (a b:Expr) (pos:Pos):bt sc x=true->x=Qa "zip"->Srk sc (.Call (.Name x p) [a,b] [] pos) (.zip a b)
 | enm (x:Str) (p:Pos) (a:Expr) (pos:Pos):bt sc x=true->x=Qa "enumerate"->Srk sc (.Call (.Name x p) [a] [] pos) (.enm a)
 | rev (x y:Str) (p p2:Pos) (a:Expr) (pos pos2:Pos):bt sc x=true->x=Qa "reversed"->bt sc y=true->y=Qa "range"->Srk sc (.Call (.Name x p) [.Call (.Name y p2) [a] [] pos2] [] pos) (.rev [a])
theorem vK (it:Expr):Srk sc it (jE sc it):=by
 unfold jE
 split
 ·rename_i f p as pos
  split
  ·rename_i h
   simp only [aI,dZ,beq_iff_eq,or_assoc] at h
   exact .rng f p as pos h.1.1 h.1.2 h.2
  ·split
   ·rename_i h
    simp only [aI,beq_iff_eq] at h
    split
    ·exact .zip f p _ _ pos h.1 h.2
    ·exact .seq _
   ·split
    ·rename_i h
     simp only [aI,beq_iff_eq] at h
     split
     ·split
      ·rename_i h'
       simp only [aI,beq_iff_eq] at h'
       exact .rev f _ p _ _ pos _ h.1 h.2 h'.1 h'.2
      ·exact .seq _
     ·exact .seq _
    ·split
     ·rename_i h
      simp only [aI,beq_iff_eq] at h
      split
      ·exact .enm f p _ pos h.1 h.2
      ·exact .seq _
     ·exact .seq _
 ·exact .seq _
theorem tG (g:XG call G k X sc N) (hG:∀x∈bQ,G.defs.lookup x=none) (h:x=Qa s) (hs:s∈["len","abs","min","max","sum","all","tuple","list","int","bool","str","isinstance","range","zip","reversed","sorted","enumerate","any"]):X.mg x=none:=g.blt x (hG x (gU h hs)) (gU h hs)
theorem yA (A:AllE call G k n) (g:XG call G k X sc N) (h:cE G n sc N it=some x):SndI X tg it true (fun Z=>(aa call Z x).bind λr=>bD r.2):=qMX (A.e X sc N it x g h).he
theorem qJT (A:AllE call G k n) (g:XG call G k X sc N) (h:cE G n sc N it=some x):oA X tg it true (fun Z=>(pk Z x (aa call Z x)).bind bD):=qJW (A.e X sc N it x g h).hp
theorem yz (A:AllE call G k n) (g:XG call G k X sc N) (hG:∀x∈bQ,G.defs.lookup x=none) (hg:bt sc f=true) (hf:f=Qa "range") (hl:as.length=1∨as.length=2∨as.length=3) (h:fu G n sc N as=some xs) :
  SndI X tg (.Call (.Name f p) as [] pos) false (fun Z=>(bY call Z xs).bind eg):=by
 obtain⟨_,a2,a3,a4⟩:=A.a X sc N as xs g h
 exact qMY hf (g.gl f hg) (tG g hG hf (by decide)) a3 hl a4 a2
theorem yB (A:AllE call G k n) (g:XG call G k X sc N) (hG:∀x∈bQ,G.defs.lookup x=none) (hg:bt sc f=true) (hf:f=Qa "zip") (ha:cE G n sc N a=some x) (hb:cE G n sc N b=some y) :
  SndI X (.Tuple es kk tp) (.Call (.Name f p) [a,b] [] pos) true (fun Z=>(aa call Z x).bind λx=>(aa call Z y).bind λy=>(bD x.2).bind λxs=>(fI y.2).bind λys=>some (bN xs ys)):=
 qMU hf (g.gl f hg) (tG g hG hf (by decide)) (by simp [gW ha,gW hb]) (A.e X sc N a x g ha).he (A.e X sc N b y g hb).he
theorem qMR (A:AllE call G k n) (g:XG call G k X sc N) (hG:∀x∈bQ,G.defs.lookup x=none) (hg:bt sc f=true) (hf:f=Qa "enumerate") (ha:cE G n sc N a=some x) :
  SndI X (.Tuple es kk tp) (.Call (.Name f p) [a] [] pos) true (fun Z=>(aa call Z x).bind λx=>(bD x.2).bind λxs=>some (fm 0 xs)):=
 qM5 hf (g.gl f hg) (tG g hG hf (by decide)) (by simp [gW ha]) (A.e X sc N a x g ha).he
theorem tK (h:fg sc N tg=some t) (h2:my t=true):∃es kk tp,tg=.Tuple es kk tp:=by
 unfold fg at h
 split at h
 ·split at h
  ·rename_i x _ _
   cases hs:bF N x with
   | none=>rw [hs] at h;cases h
   | some i=>rw [hs] at h;cases h;cases h2
  ·cases h
 ·exact⟨_,_,_,rfl⟩
 ·cases h
theorem tm (h:fe sc N tg=some t) (h2:my t=true):fg sc N tg=some t:=by
 unfold fe at h
 cases ht:fg sc N tg with
 | some t'=>rw [ht] at h;exact h
 | none =>
  rw [ht] at h
  cases tg with
  | Tuple es kk pos =>
   have h:(cm (dQ sc N) es).map Tg.many=some t:=h
   cases hx:cm (dQ sc N) es with
   | none=>rw [hx] at h;cases h
   | some is=>rw [hx] at h;cases h;cases h2
  | _=>cases h
theorem qOi (h:cE G n sc N (.Name x p)=some (.v i)):cV sc N x=some i:=by
 cases n with
 | zero=>cases h
 | succ n =>
  have h:(match cV sc N x with|some i=>some (C.v i)|none=>ka G sc x)=some (.v i):=h
  cases hv:cV sc N x with
  | some j=>rw [hv] at h;cases h;rfl
  | none =>
   rw [hv] at h
   have h:ka G sc x=some (.v i):=h
   unfold ka at h
   split at h
   ·cases hc:G.cons.lookup x<;>(rw [hc] at h;cases h)
   ·cases h
theorem qMs (g:XG call G k X sc N):X.A.units+20<cLine:=by
 have:=g.room.units
 omega
theorem qQ6 (hl:2<=es.length) (h:jv G n sc N es=some c):∀i,c≠.v i:=by
 cases n with
 | zero=>cases h
 | succ n =>
  unfold jv at h
  split at h
  ·simp at hl
  ·obtain⟨x,e1,e2⟩:=af h
   obtain⟨y,e3,e4⟩:=af e2
   cases e4
   exact λi z=>nomatch z
  ·cases h
theorem qR4 (hl:2<=es.length) (h:j9 G n sc N es=some c):∀i,c≠.v i:=by
 cases n with
 | zero=>cases h
 | succ n =>
  unfold j9 at h
  split at h
  ·simp at hl
  ·obtain⟨x,e1,e2⟩:=af h
   obtain⟨y,e3,e4⟩:=af e2
   cases e4
   exact λi z=>nomatch z
  ·cases h
variable {n:Nat}{elt:Expr}{gens:List Comprehension}{c:C}{pos:Pos} in
theorem yZ (hG:∀x∈bQ,G.defs.lookup x=none) (A:AllE call G k n) (g:XG call G k X sc N) (h:cX G (n+1) sc N (.ListComp elt gens sc' pos)=some c):CoI call G k X sc sc' N elt gens c:=by
 obtain⟨tg,it,fs,rfl⟩:∃tg it fs,gens=[⟨tg,it,fs,0⟩]:=by
  cases gens with
  | nil=>cases h
  | cons a r =>
   obtain⟨tg,it,fs,k⟩:=a
   cases r with
   | cons b r=>cases k with
    | negSucc k=>cases h
    | ofNat k=>cases k<;>cases h
   | nil =>
    cases k with
    | negSucc k=>cases h
    | ofNat k =>
     cases k with
     | succ k=>cases h
     | zero=>exact⟨tg,it,fs,rfl⟩
 replace h:=(show (if pP sc' then _ else none)=some c from h)
 split at h
 ·rename_i hsc
  have S:=zv hsc
  obtain⟨t,e1,e2⟩:=af h
  obtain⟨ks,e3,e4⟩:=af e2
  obtain⟨ce,e5,e6⟩:=af e4
  have he:∀X':Cx,XG call G k X' sc' (aG sc'++aB sc')->SndE call X' elt ce:=λX' g'=>(A.e X' sc' _ elt ce g' e5).he
  have hsr:=vK (sc:=sc) it
  generalize jE sc it=q at e6 hsr
  match fs,e6 with
  | [],e6 =>
   simp only at e6
   cases q with
   | seq s =>
    obtain⟨x,q1,q2⟩:=af e6
    cases q2
    cases hsr
    refine⟨tg,it,none,t,ks,ce,true,_,rfl,⟨S,e1,e3,he,nofun,qJT A g q1,sU q1 X.env⟩,fun Z r hr=>?_,nofun⟩
    obtain⟨y,r1,r2⟩:=af (by simpa only [zX] using hr)
    obtain⟨its,r3,r4⟩:=af r2
    obtain⟨ys,r5,r6⟩:=af r4
    cases r6
    exact⟨its,ys,by simp only [r1];exact r3,r5,rfl,λz=>z rfl⟩
   | rng rs =>
    obtain⟨xs,q1,q2⟩:=af e6
    cases q2
    cases hsr with
    | rng f p as pos2 hg hf hl =>
     refine⟨tg,_,none,t,ks,ce,false,_,rfl,⟨S,e1,e3,he,nofun,(yz (p:=p) (pos:=pos2) A g hG hg hf hl q1).c,λ_=>rfl⟩,fun Z r hr=>?_,nofun⟩
     obtain⟨y,r1,r2⟩:=af (by simpa only [zW] using hr)
     obtain⟨its,r3,r4⟩:=af r2
     split at r4
     ·rename_i hle
      obtain⟨ys,r5,r6⟩:=af r4
      cases r6
      exact⟨its,ys,by simp only [r1];exact r3,r5,rfl,λ_=>hle⟩
     ·cases r4
   | zip a b =>
    simp only at e6
    split at e6
    ·rename_i h2
     obtain⟨x,q1,q2⟩:=af e6
     obtain⟨y,q3,q4⟩:=af q2
     cases q4
     obtain⟨es,kk,tp,rfl⟩:=tK (tm e1 h2) h2
     cases hsr with
     | zip f p a b pos2 hg hf =>
      refine⟨_,_,none,t,ks,ce,true,_,rfl,⟨S,e1,e3,he,nofun,(yB (p:=p) (pos:=pos2) A g hG hg hf q1 q3).c,λ_=>rfl⟩,fun Z r hr=>?_,nofun⟩
      obtain⟨z,r1,r2⟩:=af (by simpa only [zY] using hr)
      obtain⟨z2,r3,r4⟩:=af r2
      obtain⟨xs,r5,r6⟩:=af r4
      obtain⟨ys,r7,r8⟩:=af r6
      obtain⟨zs,r9,r10⟩:=af r8
      cases r10
      exact⟨bN xs ys,zs,by simp only [r1,r3,r5,r7,bL],r9,rfl,λz=>z rfl⟩
    ·cases e6
   | rev rs=>cases e6
   | enm a =>
    simp only at e6
    split at e6
    ·rename_i h2
     obtain⟨x,q1,q2⟩:=af e6
     cases q2
     obtain⟨es,kk,tp,rfl⟩:=tK (tm e1 h2) h2
     cases hsr with
     | enm f p a pos2 hg hf =>
      refine⟨_,_,none,t,ks,ce,true,_,rfl,⟨S,e1,e3,he,nofun,(qMR (p:=p) (pos:=pos2) A g hG hg hf q1).c,λ_=>rfl⟩,fun Z r hr=>?_,nofun⟩
      obtain⟨z,r1,r2⟩:=af (by simpa only [zV] using hr)
      obtain⟨xs,r5,r6⟩:=af r2
      obtain⟨zs,r9,r10⟩:=af r6
      cases r10
      exact⟨fm 0 xs,zs,by simp only [r1,r5,bL],r9,rfl,λz=>z rfl⟩
    ·cases e6
  | [cd],e6 =>
   obtain⟨cc,e7,e8⟩:=af e6
   cases q with
   | seq s =>
    obtain⟨x,q1,q2⟩:=af e8
    cases q2
    cases hsr
    refine⟨tg,it,some (cd,cc),t,ks,ce,true,_,rfl,⟨S,e1,e3,he,λp z X' g'=>by cases z;exact (A.e X' sc' _ cd cc g' e7).ht,(yA A g q1).c,sU q1 X.env⟩,fun Z r hr=>?_,nofun⟩
    obtain⟨y,r1,r2⟩:=af (by simpa only [pV] using hr)
    obtain⟨its,r3,r4⟩:=af r2
    obtain⟨ys,r5,r6⟩:=af r4
    cases r6
    exact⟨its,ys,by simp only [r1];exact r3,r5,rfl,λz=>z rfl⟩
   | _=>cases e8
  | _::_::_,e6=>cases e6
 ·cases h
theorem qLj (hG:∀x∈bQ,G.defs.lookup x=none) (A:AllE call G k n):AllE call G k (n+1):=by
 constructor
 ·intro X sc N e c g h
  have E:∀{e c},cE G n sc N e=some c->Ok call X e c:=λh=>A.e X sc N _ _ g h
  have gx:cX G n sc N e=some c->Ok call X e c:=λh=>(A.x X sc N _ c g h).1
  cases e with
  | Name x pos =>
   replace h:=(show (match cV sc N x with|some i=>some (C.v i)|none=>ka G sc x)=some c from h)
   cases hv:cV sc N x with
   | none =>
    rw [hv] at h
    obtain⟨h1,h2⟩:=qPh (call:=call) (pos:=pos) g h
    exact .of h1 (h1.test λ_=>rfl) h2
   | some i =>
    rw [hv] at h
    cases h
    obtain⟨h1,h2,h3⟩:=zx (call:=call) (pos:=pos) g hv
    exact⟨h1,h2,h1.test λ_=>rfl,h3,.inl ⟨_,_,rfl⟩⟩
  | Constant cc j pos =>
   obtain⟨d,hv,rfl⟩:=yad.mp h
   exact fS (Ae hv) (λ_=>rfl) rfl
  | BinOp a op b pos =>
   obtain⟨o,e1,e2⟩:=af h
   obtain⟨x,e3,e4⟩:=af e2
   obtain⟨y,e5,e6⟩:=af e4
   cases e6
   exact fS (qM7 (qPU e1) (E e3).hp (E e5).hp) (λ_=>rfl) rfl
  | UnaryOp op a pos =>
   cases op with
   | USub =>
    obtain⟨x,hx,rfl⟩:=yad.mp h
    exact fS (qM0 (E hx).hp) (λ_=>rfl) rfl
   | Not =>
    obtain⟨x,hx,rfl⟩:=yad.mp h
    obtain⟨h1,h2⟩:=yw (pos:=pos) (E hx).he (E hx).ht
    exact .of h1 h2 (iR rfl)
   | _=>exact gx h
  | BoolOp op es pos =>
   cases op with
   | And =>
    replace h:=(show (if 2<=es.length then jv G n sc N es else none)=some c from h)
    split at h
    ·rename_i hl
     have h0:=A.w X sc N es c g h
     exact .of (h0 pos).1 h0.test (qQ6 hl h)
    ·cases h
   | Or =>
    replace h:=(show (if 2<=es.length then j9 G n sc N es else none)=some c from h)
    split at h
    ·rename_i hl
     have h0:=A.v X sc N es c g h
     exact .of (h0 pos).1 h0.test (qR4 hl h)
    ·cases h
  | Compare a ops bs pos =>
   obtain _|⟨op,_|⟨_,_⟩⟩:=ops
   ·exact gx h
   ·obtain _|⟨b,_|⟨_,_⟩⟩:=bs
    ·exact gx h
    ·replace h:=(show (n6 op b).elim _ _=some c from h)
     cases hi:n6 op b with
     | some q =>
      rw [hi] at h
      obtain⟨j,p2,rfl,ho⟩:=qKH hi
      obtain⟨d,e1,e2⟩:=af h
      obtain⟨x,e3,e4⟩:=af e2
      cases e4
      obtain⟨h1,h2⟩:=qPf (pos:=pos) (pos':=p2) (j:=j) q.1 ho e1 (E e3).hp
      exact .of h1 h2 (iR rfl)
     | none =>
      rw [hi] at h
      obtain⟨o,e1,e2⟩:=af h
      obtain⟨x,e3,e4⟩:=af e2
      obtain⟨y,e5,e6⟩:=af e4
      cases e6
      obtain⟨h1,h2⟩:=qM6 (call:=call) (pos:=pos) (qOd (X:=X) (qMs g) e1) (qNJ e5 op) (λ_ _ _ hz=>qQK hz) (E e3).hp (E e5).hp
      exact .of h1 h2 (iR rfl)
    ·exact gx h
   ·exact gx h
  | Subscript a b pos =>
   replace h:=(show (ow b).elim _ _=some c from h)
   cases hi:ow b with
   | some q =>
    rw [hi] at h
    obtain⟨p2,rfl⟩:=qJ4 hi
    obtain⟨x,e1,e2⟩:=af h
    obtain⟨l,e3,e4⟩:=af e2
    obtain⟨u,e5,e6⟩:=af e4
    cases e6
    exact fS (qPc (E e1).hp (A.o X sc N _ l g e3) (A.o X sc N _ u g e5)) (λ_=>rfl) rfl
   | none =>
    rw [hi] at h
    obtain⟨x,e1,e2⟩:=af h
    obtain⟨y,e3,e4⟩:=af e2
    cases e4
    exact fS (qPe (qKb e3) (E e1).hp (E e3).hp) (λ_=>rfl) rfl
  | Tuple es kk pos =>
   obtain⟨xs,hx,rfl⟩:=yad.mp h
   exact fS (qMV (A.a X sc N es xs g hx).1) (λ_=>rfl) rfl
  | List es pos =>
   obtain⟨xs,hx,rfl⟩:=yad.mp h
   exact fS (qM1 (A.a X sc N es xs g hx).1) (λ_=>rfl) rfl
  | Call f as ks pos =>
   cases f with
   | Name f p =>
    obtain _|⟨_,_⟩:=ks
    ·replace h:=(show (if bt sc f&&fN f then oY G n sc N f as else (cV sc N f).bind λi=>if as.isEmpty then none else (fu G n sc N as).map (.cv i))=some c from h)
     split at h
     ·rename_i hf
      rw [aI] at hf
      obtain⟨h1,h2⟩:=A.f X sc N f as c p pos g hf.1 hf.2 h
      exact .of h1 (h1.test λ_=>rfl) h2
     ·obtain⟨i,hv,h⟩:=af h
      split at h
      ·cases h
      ·rename_i hne
       obtain⟨ca,hc,rfl⟩:=yad.mp h
       obtain⟨a1,a2,a3,a4⟩:=A.a X sc N as ca g hc
       exact fS (qPi g hv a3 (by intro z;subst z;exact hne rfl) a1) (λ_=>rfl) rfl
    ·exact gx h
   | _=>exact gx h
  | IfExp t a b pos =>
   obtain⟨ct,e1,e2⟩:=af h
   obtain⟨x,e3,e4⟩:=af e2
   obtain⟨y,e5,e6⟩:=af e4
   cases e6
   exact .of (qM3 (E e1).ht (E e3).he (E e5).he) (qJZ (E e1).ht (E e3).ht (E e5).ht) (iR rfl)
  | _=>exact gx h
 ·intro X sc N f es c p pos g hg hp h
  unfold oY at h
  split at h
  ·rename_i i hd
   split at h
   ·cases h
   ·rename_i hne
    obtain⟨xs,hx,rfl⟩:=yad.mp h
    obtain⟨a1,a2,a3,a4⟩:=A.a X sc N es xs g hx
    exact⟨qJ1 g hd hg (ug hp).2 a3 (by intro z;subst z;exact hne rfl) (A.ga X sc N es xs g hx),iR rfl⟩
  ·rename_i hd
   split at h
   ·rename_i a t p2 hf
    split at h
    ·rename_i hq
     rw [aI] at hq
     obtain⟨ty,e1,e2⟩:=af h
     obtain⟨x,e3,e4⟩:=af e2
     cases e4
     have hdt:G.defs.lookup t=none:=by simpa using hq.2
     exact⟨qM2 g (by simpa using hf) hd hdt hg hq.1 e1 (gW e3) (A.e X sc N a x g e3).hp,iR rfl⟩
    ·cases h
   ·rename_i as _ _ hf
    split at h
    ·rename_i a ha
     obtain⟨y,p2,pos2,rfl,q1,q2,q3,q4⟩:=qHG ha
     obtain⟨x,hx,rfl⟩:=yad.mp h
     exact⟨qJX g q1 q2 hd q4 hg q3 (gW hx) (A.e X sc N a x g hx).hp,iR rfl⟩
    ·skip
     obtain⟨b,e1,e2⟩:=af h
     obtain⟨xs,hx,rfl⟩:=yad.mp e2
     obtain⟨a1,a2,a3,a4⟩:=A.a X sc N as xs g hx
     exact⟨qHz g e1 hd hg hp a3 a2,iR rfl⟩
   ·cases h
 ·intro X sc N es cs g h
  unfold fu at h
  split at h
  ·cases h
   exact⟨qJ3,qHB,rfl,rfl⟩
  ·rename_i a r
   obtain⟨x,e1,e2⟩:=af h
   obtain⟨xs,e3,e4⟩:=af e2
   cases e4
   have h0:=A.e X sc N a x g e1
   obtain⟨a1,a2,a3,a4⟩:=A.a X sc N r xs g e3
   have hs:=bZ (env:=X.env) (es:=r) (gW e1)
   exact⟨qHC hs h0.he a1,qGD hs h0.hp a2,by simp [gW e1];simpa using a3,by simp [a4]⟩
 ·intro X sc N e c g h
  unfold cO at h
  split at h
  ·cases h;exact qHu
  ·rename_i e
   obtain⟨x,hx,rfl⟩:=yad.mp h
   exact qHt (A.e X sc N e x g hx).hp
 ·intro X sc N e c g h
  cases e with
  | ListComp elt gens sc' pos =>
   have q:=yZ hG A g h
   have h1:=qJ0 (pos:=pos) g q
   obtain⟨_,_,_,_,_,_,_,_,_,_,_,nv⟩:=q
   exact⟨.of h1 (h1.test λ_=>rfl) nv,nv⟩
  | _=>cases h
 ·intro X sc N es cs g h
  unfold fu at h
  split at h
  ·cases h
   exact qHy
  ·rename_i a r
   obtain⟨x,e1,e2⟩:=af h
   obtain⟨xs,e3,e4⟩:=af e2
   cases e4
   exact qGC (bZ (env:=X.env) (es:=r) (gW e1)) (A.e X sc N a x g e1).hg (A.ga X sc N r xs g e3)
 ·intro X sc N es c g h
  unfold jv at h
  split at h
  ·rename_i a
   have h0:=A.e X sc N a c g h
   exact yx h0.he h0.ht
  ·rename_i a b r
   obtain⟨x,e1,e2⟩:=af h
   obtain⟨y,e3,e4⟩:=af e2
   cases e4
   have h0:=A.e X sc N a x g e1
   exact qM9 h0.he h0.ht (A.w X sc N (b::r) y g e3)
  ·cases h
 ·intro X sc N es c g h
  unfold j9 at h
  split at h
  ·rename_i a
   have h0:=A.e X sc N a c g h
   exact yx h0.he h0.ht
  ·rename_i a b r
   obtain⟨x,e1,e2⟩:=af h
   obtain⟨y,e3,e4⟩:=af e2
   cases e4
   have h0:=A.e X sc N a x g e1
   exact qPd h0.he h0.ht (A.v X sc N (b::r) y g e3)
  ·cases h
theorem jK (hG:∀x∈bQ,G.defs.lookup x=none):∀n,AllE call G k n
 | 0=>qLi
 | n+1=>qLj hG (jK hG n)
end
end Dw
namespace Dw
open PySem PySem.Spec PyProof.Rows L2
section
variable {call:Nat->List D->Option R}{G:Gx}{k:Nat}{X:Cx}{sc sc':Scope}{N:List Str}
theorem qHh (elt:Expr) (gens:List Comprehension) (sc':Scope) (pos py:Pos) (x:Str) (ln:Nat) (env:Env):∃b:Bool,swapsWith (.ListComp elt gens sc' pos) (some (.Name x py)) ln env=pure b:=⟨_,rfl⟩
theorem qOn (hG:∀x∈bQ,G.defs.lookup x=none) (g:XG call G k X sc N) (h:cE G n sc N e=some c) (hx:(sc.names.lookup x == some .local||sc.names.lookup x == some .cell)=true) (hsl:bF N x=some i) :
  ∃t:TS,PS X (.Assign [.Name x py] e spos) t/\∀(Ge:Gp) (H:Hp) (F:Fz) (Z:En) (τ:L2.St) (r:R) (Dn:Ends),aa call Z c=some r->SR X.K Ge H F Z τ->(∀v H' F',Gr H F H' F'->RR X.K H H' F' r v->Dn.nx (τ.set i (some v)) H')->t Dn τ H:=by
 obtain⟨l1,l2⟩:=jM g hx
 have plain:swapsWith e (some (.Name x py)) spos.line X.env=pure false->∃t:TS,PS X (.Assign [.Name x py] e spos) t/\∀(Ge:Gp) (H:Hp) (F:Fz) (Z:En) (τ:L2.St) (r:R) (Dn:Ends),aa call Z c=some r->SR X.K Ge H F Z τ->(∀v H' F',Gr H F H' F'->RR X.K H H' F' r v->Dn.nx (τ.set i (some v)) H')->t Dn τ H:=λhs=>by
  obtain⟨te,pe,qe⟩:=((jK (call:=call) (k:=k) hG n).e X sc N e c g h).he
  exact⟨_,xw (i:=i) (by rw [g.hN];exact g.nd) (by rw [g.hN];exact iv hsl) l1 pe hs l2,λGe H F Z τ r Dn h1 h2 h3=>qe Ge H F Z τ r _ h1 h2 h3⟩
 cases n with
 | zero=>cases h
 | succ n =>
  cases e with
  | ListComp elt gens sc' pos =>
   obtain⟨b,hb⟩:=qHh elt gens sc' pos py x spos.line X.env
   cases b with
   | false=>exact plain hb
   | true =>
    cases n with
    | zero=>cases h
    | succ n =>
     exact⟨_,qLf g (yZ hG (jK (call:=call) (k:=k) hG n) g h) hx hsl hb,λGe H F Z τ r Dn h1 h2 h3=>⟨Ge,F,Z,r,h1,h2,h3⟩⟩
  | SetComp _ _ _ _=>(cases n<;>cases h)
  | DictComp _ _ _ _ _=>(cases n<;>cases h)
  | _=>exact plain rfl
def EndsOk (K:Qb) (Ge:Gp) (F0:Fz) (H:Hp) (F:Fz) (o:Ou) (Dn:Ends):Prop:=match o with
 | .nx Z'=>∀τ' H' F',Keep H F H' F'->Gr Ge F0 H' F'->SR K Ge H' F' Z' τ'->Dn.nx τ' H'
 | .rt r=>∀v H' F',Gr Ge F0 H' F'->RR K Ge H' F' r v->Dn.rt v H'
 | .bk Z'=>∀τ' H' F',Keep H F H' F'->Gr Ge F0 H' F'->SR K Ge H' F' Z' τ'->Dn.bk τ' H'
 | .ct Z'=>∀τ' H' F',Keep H F H' F'->Gr Ge F0 H' F'->SR K Ge H' F' Z' τ'->Dn.ct τ' H'
theorem EndsOk.mv {K:Qb}{Ge:Gp}{F0:Fz}{H H1:Hp}{F F1:Fz}{o:Ou}{Dn:Ends}(h:EndsOk K Ge F0 H F o Dn) (k:Keep H F H1 F1):EndsOk K Ge F0 H1 F1 o Dn:=by
 cases o with
 | nx Z'=>exact fun τ' H' F' k' g s=>h τ' H' F' (k.trans k') g s
 | rt r=>exact h
 | bk Z'=>exact fun τ' H' F' k' g s=>h τ' H' F' (k.trans k') g s
 | ct Z'=>exact fun τ' H' F' k' g s=>h τ' H' F' (k.trans k') g s
variable (call X) in
def fC (st:List Stmt) (cs:List S):Prop:=∃t:TS,PSs X st t/\∀(Ge:Gp) (F0:Fz) (H:Hp) (F:Fz) (Z:En) (τ:L2.St) (o:Ou) (Dn:Ends),ak call Z cs=some o->SR X.K Ge H F Z τ->Gr Ge F0 H F->EndsOk X.K Ge F0 H F o Dn->t Dn τ H
variable (call X) in
def di (st:Stmt) (cs:List S):Prop:=∃t:TS,PS X st t/\∀(Ge:Gp) (F0:Fz) (H:Hp) (F:Fz) (Z:En) (τ:L2.St) (o:Ou) (Dn:Ends),ak call Z cs=some o->SR X.K Ge H F Z τ->Gr Ge F0 H F->EndsOk X.K Ge F0 H F o Dn->t Dn τ H
theorem qFu (cx cy:List S):∀Z:En,ak call Z (cx++cy)=(ak call Z cx).bind (rV fun Z'=>ak call Z' cy):=by
 induction cx with
 | nil=>intro Z;rfl
 | cons a r ih =>
  intro Z
  rw [qH,eD,eD]
  rcases dD call Z a with _|(Z1|r1|Z1|Z1)
  ·rfl
  ·exact ih Z1
  ·rfl
  ·rfl
  ·rfl
theorem yv:fC call X [] []:=⟨_,qNn,λGe F0 H F Z τ o Dn h s g e=>by cases h;exact e τ H F Keep.refl g s⟩
theorem tS {st:Stmt}{rest:List Stmt}{cx cy:List S}(h1:di call X st cx) (h2:fC call X rest cy):fC call X (st::rest) (cx++cy):=by
 obtain⟨t1,p1,q1⟩:=h1
 obtain⟨t2,p2,q2⟩:=h2
 refine⟨_,qJ9 p1 p2,λGe F0 H F Z τ o Dn h s g e=>?_⟩
 rw [qFu] at h
 obtain⟨o1,e1,e2⟩:=af h
 cases o1 with
 | nx Z1=>exact q1 Ge F0 H F Z τ (.nx Z1) { Dn with nx:=t2 Dn } e1 s g fun τ' H' F' k' g' s'=>q2 Ge F0 H' F' Z1 τ' o Dn e2 s' g' (e.mv k')
 | rt r=>cases e2;exact q1 Ge F0 H F Z τ (.rt r) { Dn with nx:=t2 Dn } e1 s g e
 | bk Z1=>cases e2;exact q1 Ge F0 H F Z τ (.bk Z1) { Dn with nx:=t2 Dn } e1 s g e
 | ct Z1=>cases e2;exact q1 Ge F0 H F Z τ (.ct Z1) { Dn with nx:=t2 Dn } e1 s g e
theorem SR.frz1 {K:Qb}{Ge:Gp}{H:Hp}{F F0:Fz}{Z:En}{τ:L2.St}(s:SR K Ge H F Z τ) (g:Gr Ge F0 H F) (i:Nat):∃F',SR K Ge H F' (Dw.frz1 Z i) τ/\Keep H F H F'/\Gr Ge F0 H F':=by
 unfold Dw.frz1
 split
 ·rename_i ds0 hd
  obtain⟨a,ds,vs,eq0,h2,h3,h4,h5,h6⟩:=s.own i _ hd rfl
  cases eq0
  have kp:Keep H F H (λb=>b=a∨F b):=⟨λ_ _ h=>h,λ_ _ f h=>⟨.inr f,h⟩,λ_ _ _ _ h=>h,λ_ _ _ h=>h⟩
  refine⟨λb=>b=a∨F b,?_,kp,⟨g.same,λb f=>.inr (g.sub b f),λb f=>f.elim (λz=>.inr (z▸h3)) (g.new b),λb e f=>f.elim (λz=>by subst z;rw [h5] at e;cases e) (g.dom b e)⟩⟩
  have hl:=gk hd
  refine⟨by simp [s.len],s.ent,λb e f=>f.elim (λz=>by subst z;rw [h5] at e;cases e) (s.dom b e),λj e hj=>?_,λj e hj hde=>?_,λj l e e' hj hl' hjl=>?_,λj m ks hj=>?_,λp e hp hj=>?_⟩
  ·by_cases hij:i=j
   ·subst hij
    rw [eH hl] at hj
    cases hj
    exact⟨.ref a,h2,a,vs,rfl,.inl ⟨.inl rfl,.inl h5⟩,RDs.mono kp h6⟩
   ·rw [cA hij] at hj
    obtain⟨v,q1,q2⟩:=s.val j e hj
    exact⟨v,q1,RD.mono kp q2⟩
  ·have hij:i≠j:=λz=>by subst z;rw [eH hl] at hj;cases hj
   rw [cA hij] at hj
   obtain⟨a',ds',vs',p1,p2,p3,p4,p5,p6⟩:=s.own j e hj hde
   refine⟨a',ds',vs',p1,p2,p3,λf=>f.elim (λz=>?_) p4,p5,RDs.mono kp p6⟩
   subst z
   exact hij (s.sep i j _ _ hd hj (by rw [h2,p2]))
  ·have ne:∀{j:Nat} {e:D},ao (Z.set i (some (false,.lst ds0))) j=some (true,e)->i≠j:=λ{j e} hj z=>by subst z;rw [eH hl] at hj;cases hj
   have n1:=ne hj
   have n2:=ne hl'
   rw [cA n1] at hj
   rw [cA n2] at hl'
   exact s.sep j l e e' hj hl' hjl
  ·have hij:i≠j:=λz=>by subst z;rw [eH hl] at hj;cases hj
   rw [cA hij] at hj
   obtain⟨a',p1,p2,p3,p4⟩:=s.dct j m ks hj
   refine⟨a',p1,λf=>f.elim (λz=>?_) p2,p3,p4⟩
   subst z
   rw [h5] at p3
   cases p3
  ·have hij:i≠0:=λz=>by subst z;rw [eH hl] at hj;cases hj
   rw [cA hij] at hj
   exact s.pin p e hp hj
 ·exact⟨F,s,Keep.refl,g⟩
theorem SR.frzs {K:Qb}{Ge:Gp}{H:Hp}{F0:Fz}{τ:L2.St}:∀(js:List Nat) {Z:En}{F:Fz},SR K Ge H F Z τ->Gr Ge F0 H F->∃F',SR K Ge H F' (js.foldl Dw.frz1 Z) τ/\Keep H F H F'/\Gr Ge F0 H F'
 | [],Z,F,s,g=>⟨F,s,Keep.refl,g⟩
 | j::js,Z,F,s,g=>by
  obtain⟨F1,s1,k1,g1⟩:=SR.frz1 s g j
  obtain⟨F2,s2,k2,g2⟩:=SR.frzs js s1 g1
  exact⟨F2,s2,k1.trans k2,g2⟩
theorem gZ {st:Stmt}{mt is:List Nat}{s:S}(h:di call X st [s]):di call X st (gf mt is s):=by
 unfold gf
 split
 ·exact h
 ·obtain⟨t,p,q⟩:=h
  refine⟨t,p,λGe F0 H F Z τ o Dn hv hs g e=>?_⟩
  obtain⟨F',s',k',g'⟩:=SR.frzs (is.filter (mt.contains ·)) hs g
  exact q Ge F0 H F' _ τ o Dn hv s' g' (e.mv k')
end
end Dw
namespace Dw
open PySem PySem.Spec PyProof.Rows L2
section
variable {call:Nat->List D->Option R}{G:Gx}{k:Nat}{X:Cx}{sc sc':Scope}{N:List Str}
theorem gY (Z:En) (s:S):ak call Z [s]=dD call Z s:=by
 rw [eD]
 rcases dD call Z s with _|(_|_|_|_)<;>rfl
theorem SR.bindOwn {K:Qb}{Ge:Gp}{H H1:Hp}{F F1:Fz}{Z:En}{τ:L2.St}{i:Nat}{d:D}{v:V}(h0:i≠0) (s0:SR K Ge H F Z τ) (s:SR K Ge H1 F1 Z τ) (h:RR K H H1 F1 (true,d) v):SR K Ge H1 F1 (Z.set i (some (true,d))) (τ.set i (some v)):=by
 obtain⟨a,ds,vs,rfl,rfl,h3,h4,h5,h6⟩:=h
 have hne:∀{j:Nat} {e:D} {a':Addr},ao Z j=some (true,e)->τ[j]?=some (some (.ref a'))->a'≠a:=λ{j e a'} hj ht z=>by
  obtain⟨b,u,q2,_,q5⟩:=s0.addr hj
  rw [ht] at q2
  cases q2
  subst z
  rw [h3] at q5
  cases q5
 refine⟨by simp [s.len],s.ent,s.dom,λj e hj=>?_,λj e hj hde=>?_,λj l e e' hj hl hjl=>?_,λj m ks hj=>?_,λp e hp hj=>?_⟩
 ·have hij:i≠j:=λz=>by
   subst z
   rw [eH (by simpa using gk hj)] at hj
   cases hj
  rw [cA hij] at hj
  obtain⟨u,q1,q2⟩:=s.val j e hj
  exact⟨u,by rw [bS hij];exact q1,q2⟩
 ·by_cases hij:i=j
  ·subst hij
   have hl:i<Z.length:=by simpa using gk hj
   rw [eH hl] at hj
   cases hj
   exact⟨a,ds,vs,rfl,by rw [kz (by rw [<-s.len];exact hl)],s0.ent.free h3,h4,h5,h6⟩
  ·rw [cA hij] at hj
   obtain⟨a',ds',vs',q1,q2,q3⟩:=s.own j e hj hde
   exact⟨a',ds',vs',q1,by rw [bS hij];exact q2,q3⟩
 ·by_cases n1:i=j
  ·by_cases n2:i=l
   ·rw [<-n1,<-n2]
   ·subst n1
    have hl':i<Z.length:=by simpa using gk hj
    rw [cA n2] at hl
    obtain⟨b,u,q2,_⟩:=s.addr hl
    rw [kz (by rw [<-s.len];exact hl'),bS n2,q2] at hjl
    cases hjl
    exact Qn rfl (hne hl q2)
  ·rw [cA n1] at hj
   by_cases n2:i=l
   ·subst n2
    have hl':i<Z.length:=by simpa using gk hl
    obtain⟨b,u,q2,_⟩:=s.addr hj
    rw [kz (by rw [<-s.len];exact hl'),bS n1,q2] at hjl
    cases hjl
    exact Qn rfl (hne hj q2)
   ·rw [cA n2] at hl
    rw [bS n1,bS n2] at hjl
    exact s.sep j l e e' hj hl hjl
 ·have hij:i≠j:=λz=>by
   subst z
   rw [eH (by simpa using gk hj)] at hj
   cases hj
  rw [cA hij] at hj
  obtain⟨a',q1,q2⟩:=s.dct j m ks hj
  exact⟨a',by rw [bS hij];exact q1,q2⟩
 ·rw [cA h0] at hj
  rw [bS h0]
  exact s.pin p e hp hj
theorem xD {i:Nat}{keep:Bool}{x:Str}{e:Expr}{c:C}{py spos:Pos}(h0:keep=true->i≠0) (h:∃t:TS,PS X (.Assign [.Name x py] e spos) t/\∀(Ge:Gp) (H:Hp) (F:Fz) (Z:En) (τ:L2.St) (r:R) (Dn:Ends),aa call Z c=some r->SR X.K Ge H F Z τ->(∀v H' F',Gr H F H' F'->RR X.K H H' F' r v->Dn.nx (τ.set i (some v)) H')->t Dn τ H) :
  di call X (.Assign [.Name x py] e spos) [.set i keep c]:=by
 obtain⟨t,p,q⟩:=h
 refine⟨t,p,λGe F0 H F Z τ o Dn hv hs gr en=>?_⟩
 rw [gY,xU] at hv
 obtain⟨r,e1,e2⟩:=af hv
 cases e2
 refine q Ge H F Z τ r Dn e1 hs λv H' F' g' rr=>?_
 obtain⟨b,d⟩:=r
 have froz:dW keep (b,d)=(false,d)->Dn.nx (τ.set i (some v)) H':=λhk=>by
  obtain⟨F2,g2,rd⟩:=rr.fz g'
  have en':∀τ' H' F',Keep H F H' F'->Gr Ge F0 H' F'->SR X.K Ge H' F' (Z.set i (some (dW keep (b,d)))) τ'->Dn.nx τ' H':=en
  rw [hk] at en'
  exact en' _ H' F2 g2.keep (gr.trans g2) ((hs.grow g2).bind rd)
 cases b with
 | false=>exact froz (by cases keep<;>rfl)
 | true =>
  cases keep with
  | false=>exact froz rfl
  | true=>exact en _ H' F' g'.keep (gr.trans g') (SR.bindOwn (h0 rfl) hs (hs.grow g') rr)
theorem qMW (hG:∀x∈bQ,G.defs.lookup x=none) (g:XG call G k X sc N) (h0:keep=true->i≠0) (h:cE G n sc N e=some c) (hx:(sc.names.lookup x == some .local||sc.names.lookup x == some .cell)=true) (hsl:bF N x=some i) :
  di call X (.Assign [.Name x py] e spos) [.set i keep c]:=xD h0 (qOn (py:=py) (spos:=spos) hG g h hx hsl)
theorem mT (h:H a=some (.lst vs)) (hf:¬F a):Keep H F (av H a (.lst ws)) F:=⟨λp xs q=>by
  have ne:p≠a:=λz=>by subst z;rcases q with q|⟨o,q⟩<;>(rw [h] at q;cases q)
  rcases q with q|⟨o,q⟩
  ·exact .inl (by rw [ax ne];exact q)
  ·exact .inr ⟨o,by rw [ax ne];exact q⟩,λp xs f q=>by
  have ne:p≠a:=λz=>by subst z;exact hf f
  refine⟨f,?_⟩
  rcases q with q|⟨o,q⟩
  ·exact .inl (by rw [ax ne];exact q)
  ·exact .inr ⟨o,by rw [ax ne];exact q⟩,λp C dx fs q=>by rw [ax (λz=>by subst z;rw [h] at q;cases q)];exact q,λp o u q=>by rw [ax (λz=>by subst z;rw [h] at q;cases q)];exact q⟩
theorem kZ (g:Gr Ge F0 H F) (h:H a=some (.lst vs)) (hg:Ge a=none):Gr Ge F0 (av H a (.lst ws)) F:=⟨λb o e=>by rw [ax (cf e hg)];exact g.same b o e,g.sub,g.new,λb e=>by
  by_cases z:b=a
  ·subst z;rw [dJ] at e;cases e
  ·rw [ax z] at e;exact g.dom b e⟩
theorem pH {K:Qb}{Ge:Gp}{H:Hp}{F0 F:Fz}{Z:En}{τ:L2.St}{i:Nat}{a:Addr}{ds es:List D}{vs ws:List V}(s:SR K Ge H F Z τ) (g:Gr Ge F0 H F) (hi:ao Z i=some (true,.lst ds)) (ht:τ[i]?=some (some (.ref a))) (hg:Ge a=none) (hf:¬F a) (h:H a=some (.lst vs)) (r:RDs K H F es ws) :
  SR K Ge (av H a (.lst ws)) F (Z.set i (some (true,.lst es))) τ:=by
 have kp:=mT (ws:=ws) h hf
 have hl:=gk hi
 refine⟨by simp [s.len],(kZ (ws:=ws) g h hg).same,(kZ (ws:=ws) g h hg).dom,λj e hj=>?_,λj e hj hde=>?_,λj l e e' hj hl' hjl=>?_,λj m ks hj=>?_,λp e hp hj=>?_⟩
 ·have hij:i≠j:=λz=>by subst z;rw [eH hl] at hj;cases hj
  rw [cA hij] at hj
  obtain⟨v,q1,q2⟩:=s.val j e hj
  exact⟨v,q1,RD.mono kp q2⟩
 ·by_cases hij:i=j
  ·subst hij
   rw [eH hl] at hj
   cases hj
   exact⟨a,es,ws,rfl,ht,hg,hf,dJ,RDs.mono kp r⟩
  ·rw [cA hij] at hj
   obtain⟨a',ds',vs',p1,p2,p3,p4,p5,p6⟩:=s.own j e hj hde
   have ne:a'≠a:=λz=>by subst z;exact hij (s.sep i j _ _ hi hj (by rw [ht,p2]))
   exact⟨a',ds',vs',p1,p2,p3,p4,by rw [ax ne];exact p5,RDs.mono kp p6⟩
 ·have back:∀{j:Nat} {e:D},ao (Z.set i (some (true,.lst es))) j=some (true,e)->∃e',ao Z j=some (true,e'):=λ{j e} hj=>by
   by_cases hij:i=j
   ·subst hij;exact⟨_,hi⟩
   ·rw [cA hij] at hj;exact⟨e,hj⟩
  obtain⟨_,b1⟩:=back hj
  obtain⟨_,b2⟩:=back hl'
  exact s.sep j l _ _ b1 b2 hjl
 ·have hij:i≠j:=λz=>by subst z;rw [eH hl] at hj;cases hj
  rw [cA hij] at hj
  obtain⟨a',p1,p2,p3,p4⟩:=s.dct j m ks hj
  have ne:a'≠a:=λz=>by subst z;rw [h] at p3;cases p3
  exact⟨a',p1,p2,by rw [ax ne];exact p3,p4⟩
 ·by_cases hij:i=0
  ·subst hij;exact s.pin p _ hp hi
  ·rw [cA hij] at hj;exact s.pin p e hp hj
theorem jV {K:Qb}{Ge:Gp}{H:Hp}{F:Fz}{Z:En}{τ:L2.St}{i:Nat}{ds:List D}(s:SR K Ge H F Z τ) (h:ao Z i=some (true,.lst ds)):∃a vs,τ[i]?=some (some (.ref a))/\Ge a=none/\¬F a/\H a=some (.lst vs)/\RDs K H F ds vs:=by
 obtain⟨a,ds',vs,e,h2,h3,h4,h5,h6⟩:=s.own i _ h rfl
 cases e
 exact⟨a,vs,h2,h3,h4,h5,h6⟩
theorem qM8 {n:Nat}(A:AllE call G k n) (g:XG call G k X sc N) {x m:Str}{i:Nat}{p p2 p3 spos:Pos}{e:Expr}{c:C}(hm:m=Qa "append") (hln:(p2.endLine == p3.line)=true) (hv:cV sc N x=some i) (h:cE G n sc N e=some c) :
  di call X (.Expr (.Call (.Attribute (.Name x p) m p2) [e] [] p3) spos) [.app i c]:=by
 subst hm
 obtain⟨h1,h2,h3,h4⟩:=mJ g hv
 obtain⟨te,pe,qe⟩:=(A.e X sc N e c g h).he
 have pn:PE X (.Name x p) (mh i):=jb h1 h2 h3 h4
 have hst:=bZ (env:=X.env) (es:=[]) (gW h)
 refine⟨_,yL (wG qP PySem.F.slot_list_append PySem.F.type_list_append Ab pn (fL pe il hst) (hfew:=by rw [hst];rfl) (hline:=hln) (hs:=hst)),λGe F0 H F Z τ o Dn hvv hs gr en=>?_⟩
 rw [gY,yp] at hvv
 obtain⟨r,e1,e2⟩:=af hvv
 unfold iJ at e2
 split at e2
 ·rename_i xs hg
  split at e2
  ·rename_i hlt
   cases e2
   obtain⟨a,vs,q1,q2,q3,q4,q5⟩:=jV hs hg
   refine⟨.ref a,q1,.inl ⟨rfl,_,SqL.of q4⟩,?_⟩
   refine qe Ge H F Z τ r _ e1 hs λv H1 F1 g1 rr=>?_
   obtain⟨F2,g2,rd⟩:=rr.fz g1
   have s2:=hs.grow g2
   obtain⟨a',vs',q1',q2',q3',q4',q5'⟩:=jV s2 hg
   rw [q1] at q1'
   cases q1'
   have gr2:=gr.trans g2
   refine⟨a,vs',v,rfl,rfl,q4',by rw [RDs.length q5'];exact hlt,?_⟩
   exact en _ _ F2 (g2.keep.trans (mT q4' q3')) (kZ gr2 q4' q2') (pH s2 gr2 hg q1 q2' q3' q4' (RDs.append q5' ⟨v,[],rfl,rd,rfl⟩))
  ·cases e2
 ·cases e2
section
open AutoSeq1
theorem qN4 (l:Addr) (items:Array Value) (n:Nat) (b:Addr) (items2:Array Value) (n2:Nat) (dd:Option Addr) (sl:Array (Option Value)) (hs0:¬(!items.isEmpty&&Builtin.List.listTooLong (items.size+items2.size))=true) (hs1:items.size<=sizeLine) (hs2:items.size+items2.size<=sizeLine+1) :
  Meets (Builtin.«list.extend» ⟨[.ref l,.ref b],[]⟩) (λ_ R s=>s.heap.get? l=some { cls:=.type "list",dict:=none,data:=.seq items n,slots:=#[] }/\s.heap.get? b=some { cls:=.type "tuple",dict:=dd,data:=.seq items2 n2,slots:=sl }/\R (.ok (.ret Value.none)) { s with heap:=s.heap.update l (Obj.mapSeq λx=>x++items2),toks:=s.toks }):=
 .of_wp λprog w A R s h=>by
  obtain⟨hp,g,d,tk,os⟩:=s;obtain⟨hl,hb,h⟩:=h;have f1:=idx_int;have f2:=AutoSeq1.sub_tuple_tuple;have f3:=AutoSeq1.sub_list_list;have f4:=AutoSeq1.sub_tuple_list;have f5:=AutoSeq1.sub_list_tuple
  have hz':(items++items2).size<=sizeLine+1:=by rw [Array.size_append];exact hs2
  wp_walk using (wpAny_updateSeq hl rfl (hz:=hs1) (_hz':=hz')),wpAny_loadPart' hl,wpAny_loadPart' hb;exact⟨_,rfl,h⟩
end
theorem qPT {id:String}{r r':V->List V->Hp->VK->Prop}(h:ki X id r) (h':ki X id r'):ki X id (λx vs H Q=>r x vs H Q∨r' x vs H Q):=
 λpins s Z H x vs v us Q I rx rv z=>z.elim (h pins s Z H x vs v us Q I rx rv) (h' pins s Z H x vs v us Q I rx rv)
theorem qNL:ki X "list.extend" (λx vs H Q=>∃l b xs zs,x=.ref l/\vs=[.ref b]/\H l=some (.lst xs)/\SqT X.K H b zs/\xs.length+zs.length<=sizeLine/\Q .non (av H l (.lst (xs++zs)))):=by
 intro pins s Z H x vs v us Q I rx rv h
 obtain⟨l,b,xs,zs,rfl,rfl,hH,hB,hz,q⟩:=h
 cases rx
 obtain⟨u,rfl,ru⟩:=gd rv
 cases ru
 obtain⟨z,its,n,r,hl,e⟩:=I.lstM hH
 obtain⟨its2,r2,⟨⟨cls,dd,data,sl⟩,e2,hc2,n2,hd2⟩,z2⟩:=I.tuple hB
 simp only at hc2 hd2
 subst hc2 hd2
 have hl2:=r2.length
 have hsz:its.toArray.size+its2.toArray.size<=sizeLine:=by rw [aH,aH];omega
 have hlong:¬(!its.toArray.isEmpty&&Builtin.List.listTooLong (its.toArray.size+its2.toArray.size))=true:=by
  rw [tX hsz,jl]
  exact fZ
 refine call_meets F.slot_list_extend ⟨_,e,rfl⟩ F.entry_list_extend (F.args_list_extend_2 _ _)
  (qN4 l its.toArray n b its2.toArray n2 dd sl hlong (by rw [aH];omega) (by omega)) ⟨e,e2,?_⟩
 refine⟨.non,_,I.lset (its':=its++its2) hH e (by simp) (r.append r2) ?_,rfl,q⟩
 rw [bf]
 omega
theorem qM4 (A:AllE call G k n) (g:XG call G k X sc N) {x m:Str}{i:Nat}{p p2 p3 spos:Pos}{e:Expr}{c:C}(hm:m=Qa "extend") (hln:(p2.endLine == p3.line)=true) (hv:cV sc N x=some i) (h:cE G n sc N e=some c) :
  di call X (.Expr (.Call (.Attribute (.Name x p) m p2) [e] [] p3) spos) [.ext i c]:=by
 subst hm
 obtain⟨h1,h2,h3,h4⟩:=mJ g hv
 obtain⟨te,pe,qe⟩:=(A.e X sc N e c g h).he
 have pn:PE X (.Name x p) (mh i):=jb h1 h2 h3 h4
 have hst:=bZ (env:=X.env) (es:=[]) (gW h)
 refine⟨_,yL (wG qP PySem.F.slot_list_extend PySem.F.type_list_extend (qPT qH5 qNL) pn (fL pe il hst) (hfew:=by rw [hst];rfl) (hline:=hln) (hs:=hst)),λGe F0 H F Z τ o Dn hvv hs gr en=>?_⟩
 rw [gY,sO] at hvv
 obtain⟨r,e1,e2⟩:=af hvv
 unfold n5 at e2
 split at e2
 ·rename_i ys
  split at e2
  ·rename_i xs hg
   split at e2
   ·rename_i hlt
    cases e2
    obtain⟨a,vs,q1,q2,q3,q4,q5⟩:=jV hs hg
    refine⟨.ref a,q1,.inl ⟨rfl,_,SqL.of q4⟩,?_⟩
    refine qe Ge H F Z τ _ _ e1 hs λv H1 F1 g1 rr=>?_
    have rr0:=rr
    obtain⟨b,ds,ws,ed,rfl,r1,r2,r3,r4⟩:=rr0
    cases ed
    have s2:=hs.grow g1
    obtain⟨a',vs',q1',q2',q3',q4',q5'⟩:=jV s2 hg
    rw [q1] at q1'
    cases q1'
    have gr2:=gr.trans g1
    refine .inl ⟨a,b,vs',ws,rfl,rfl,q4',r3,by rw [RDs.length q5',RDs.length r4];exact hlt,?_⟩
    exact en _ _ F1 (g1.keep.trans (mT q4' q3')) (kZ gr2 q4' q2') (pH s2 gr2 hg q1 q2' q3' q4' (RDs.append q5' r4))
   ·cases e2
  ·cases e2
 ·rename_i ys
  split at e2
  ·rename_i xs hg
   split at e2
   ·rename_i hlt
    cases e2
    obtain⟨a,vs,q1,q2,q3,q4,q5⟩:=jV hs hg
    refine⟨.ref a,q1,.inl ⟨rfl,_,SqL.of q4⟩,?_⟩
    refine qe Ge H F Z τ _ _ e1 hs λv H1 F1 g1 rr=>?_
    obtain⟨b,ws,rfl,r3,r4⟩:=rr
    have s2:=hs.grow g1
    obtain⟨a',vs',q1',q2',q3',q4',q5'⟩:=jV s2 hg
    rw [q1] at q1'
    cases q1'
    have gr2:=gr.trans g1
    refine .inr ⟨a,b,vs',ws,rfl,rfl,q4',r3,by rw [RDs.length q5',RDs.length r4];exact hlt,?_⟩
    exact en _ _ F1 (g1.keep.trans (mT q4' q3')) (kZ gr2 q4' q2') (pH s2 gr2 hg q1 q2' q3' q4' (RDs.append q5' r4))
   ·cases e2
  ·cases e2
 ·cases e2
theorem wI {X:Cx}{e:Expr}{t1 t2:TG}(h1:PG X e t1) (h2:PG X e t2):PG X e (λv Z H Q=>t1 v Z H Q∨t2 v Z H Q):=
 λpins s Z H v u Q I r hw=>hw.elim (h1 pins s Z H v u Q I r) (h2 pins s Z H v u Q I r)
theorem qJ2 (A:AllE call G k n) (g:XG call G k X sc N) {f:Expr}{as:List Expr}{ks:List Keyword}{pc:Pos}{p spos:Pos}{kk:Nat}{es:List Expr}{is:List Nat}{c:C}(ht:cm (dQ sc N) es=some is) (h:cE G n sc N (.Call f as ks pc)=some c) :
  di call X (.Assign [.Tuple es kk p] (.Call f as ks pc) spos) [.asgL is c]:=by
 obtain⟨te,pe,qe⟩:=(A.e X sc N _ c g h).he
 obtain⟨q1,q2,q3⟩:=pF g ht
 refine⟨_,su pe (wI (wH g.calm q1 q2 q3) (k0 g.calm q1 q2 q3)),λGe F0 H F Z τ o Dn hvv hs gr en=>?_⟩
 rw [gY,tJ] at hvv
 obtain⟨⟨b,d⟩,e1,e2⟩:=af hvv
 cases d with
 | lst ds =>
  obtain⟨Z',e3,e4⟩:=yad.mp (show (fq Z is ds).map Ou.nx=some o from e2)
  subst e4
  refine qe Ge H F Z τ _ _ e1 hs λv H1 F1 g1 rr=>?_
  obtain⟨F2,g2,rd⟩:=rr.fz g1
  obtain⟨a,vs,rfl,hs1,hr⟩:=(show RP X.K H1 F2 (.lst ds) v from .inl rd).lst
  exact .inl ⟨a,vs,rfl,hs1,by rw [RDs.length hr];exact j0 e3,lH (hs.grow g2) e3 hr fun τ' s'=>en τ' H1 F2 g2.keep (gr.trans g2) s'⟩
 | tup ds =>
  obtain⟨Z',e3,e4⟩:=yad.mp (show (fq Z is ds).map Ou.nx=some o from e2)
  subst e4
  refine qe Ge H F Z τ _ _ e1 hs λv H1 F1 g1 rr=>?_
  obtain⟨F2,g2,rd⟩:=rr.fz g1
  obtain⟨a,vs,rfl,hs1,hr⟩:=rd
  exact .inr ⟨a,vs,rfl,hs1,by rw [RDs.length hr];exact j0 e3,lH (hs.grow g2) e3 hr fun τ' s'=>en τ' H1 F2 g2.keep (gr.trans g2) s'⟩
 | _=>cases e2
theorem qHA (A:AllE call G k n) (g:XG call G k X sc N) {x:Str}{pn:Pos}{p spos:Pos}{kk:Nat}{es:List Expr}{is:List Nat}{c:C}(ht:cm (dQ sc N) es=some is) (h:cE G n sc N (.Name x pn)=some c) :
  di call X (.Assign [.Tuple es kk p] (.Name x pn) spos) [.asgL is c]:=by
 obtain⟨te,pe,qe⟩:=(A.e X sc N _ c g h).he
 obtain⟨q1,q2,q3⟩:=pF g ht
 refine⟨_,su pe (wI (wH g.calm q1 q2 q3) (k0 g.calm q1 q2 q3)),λGe F0 H F Z τ o Dn hvv hs gr en=>?_⟩
 rw [gY,tJ] at hvv
 obtain⟨⟨b,d⟩,e1,e2⟩:=af hvv
 cases d with
 | lst ds =>
  obtain⟨Z',e3,e4⟩:=yad.mp (show (fq Z is ds).map Ou.nx=some o from e2)
  subst e4
  refine qe Ge H F Z τ _ _ e1 hs λv H1 F1 g1 rr=>?_
  obtain⟨F2,g2,rd⟩:=rr.fz g1
  obtain⟨a,vs,rfl,hs1,hr⟩:=(show RP X.K H1 F2 (.lst ds) v from .inl rd).lst
  exact .inl ⟨a,vs,rfl,hs1,by rw [RDs.length hr];exact j0 e3,lH (hs.grow g2) e3 hr fun τ' s'=>en τ' H1 F2 g2.keep (gr.trans g2) s'⟩
 | tup ds =>
  obtain⟨Z',e3,e4⟩:=yad.mp (show (fq Z is ds).map Ou.nx=some o from e2)
  subst e4
  refine qe Ge H F Z τ _ _ e1 hs λv H1 F1 g1 rr=>?_
  obtain⟨F2,g2,rd⟩:=rr.fz g1
  obtain⟨a,vs,rfl,hs1,hr⟩:=rd
  exact .inr ⟨a,vs,rfl,hs1,by rw [RDs.length hr];exact j0 e3,lH (hs.grow g2) e3 hr fun τ' s'=>en τ' H1 F2 g2.keep (gr.trans g2) s'⟩
 | _=>cases e2
theorem RDs.last {K:Qb}{H:Hp}{F:Fz}{ds:List D}{vs:List V}{d:D}(h:RDs K H F ds vs) (e:ds.getLast?=some d):∃v,vs[vs.length - 1]?=some v/\RD K H F d v:=by
 rw [List.getLast?_eq_getElem?] at e
 obtain⟨v,e1,e2⟩:=RDs.get h e
 exact⟨v,by rw [RDs.length h];exact e1,e2⟩
theorem RDs.init {K:Qb}{H:Hp}{F:Fz}{ds:List D}{vs:List V}(h:RDs K H F ds vs):RDs K H F ds.dropLast vs.dropLast:=by
 rw [List.dropLast_eq_take,List.dropLast_eq_take,RDs.length h]
 exact RDs.take _ h
theorem yy (g:XG call G k X sc N) (hm:m=Qa "pop") (hln:(p2.endLine == p3.line)=true) (ht:fe sc N tg=some t) (hv:cV sc N x=some i) (h1':swapsWithSole [tg] (.Call (.Attribute (.Name x p) m p2) [] [] p3) spos.line X.env=pure false) (h2':swappedStores [tg] (.Call (.Attribute (.Name x p) m p2) [] [] p3) X.env=pure none) (h3':(assignEach [tg] X.env).map (·.2)=[assign tg X.env]) :
  di call X (.Assign [tg] (.Call (.Attribute (.Name x p) m p2) [] [] p3) spos) [.pop t i]:=by
 subst hm
 obtain⟨h1,h2,h3,h4⟩:=mJ g hv
 have pn:PE X (.Name x p) (mh i):=jb h1 h2 h3 h4
 refine⟨_,su (qPP qP PySem.F.slot_list_pop PySem.F.type_list_pop qQb pn (hline:=hln)) (sY g ht) h1' h2' h3',λGe F0 H F Z τ o Dn hvv hs gr en=>?_⟩
 rw [gY,yr] at hvv
 unfold ov at hvv
 split at hvv
 ·rename_i xs hg
  obtain⟨d,e1,e2⟩:=af hvv
  obtain⟨Z',e3,e4⟩:=yad.mp e2
  subst e4
  obtain⟨a,vs,q1,q2,q3,q4,q5⟩:=jV hs hg
  obtain⟨y,l1,l2⟩:=RDs.last q5 e1
  refine⟨.ref a,q1,.inl ⟨rfl,_,SqL.of q4⟩,a,vs,y,rfl,rfl,q4,l1,?_⟩
  have kp:=mT (ws:=vs.dropLast) q4 q3
  have gr2:=kZ (ws:=vs.dropLast) gr q4 q2
  exact mV (pH hs gr hg q1 q2 q3 q4 (RDs.init q5)) e3 (RD.mono kp l2) fun τ' s'=>en τ' _ F kp gr2 s'
 ·cases hvv
theorem qHr (A:AllE call G k n) (g:XG call G k X sc N) (h:cE G n sc N t=some c) (hb:fC call X body cb):di call X (.While t body [] spos) [.whl c cb]:=by
 obtain⟨tt,pt,qt⟩:=(A.e X sc N t c g h).ht
 obtain⟨tb,pb,qb⟩:=hb
 refine⟨_,qKa (by rw [g.xe];exact PassesOwn.never) pt pb,λGe F0 H F Z τ o Dn hvv hs gr en=>?_⟩
 rw [gY,xV] at hvv
 refine⟨λm τ' H'=>∃F' Z',SR X.K Ge H' F' Z' τ'/\Gr Ge F0 H' F'/\Keep H F H' F'/\ie (fun Z'=>aa call Z' c) (fun Z'=>ak call Z' cb) m Z'=some o,⟨jg,F,Z,hs,gr,Keep.refl,hvv⟩,?_⟩
 rintro m τ' H' ⟨F',Z',sr',gr',kp',ev'⟩
 cases m with
 | zero=>cases ev'
 | succ m =>
  obtain⟨⟨x,d⟩,e1,e2⟩:=af (show ((aa call Z' c).bind (rJ Z' ((ak call Z' cb).bind (kO (ie (fun Z'=>aa call Z' c) (fun Z'=>ak call Z' cb) m)))))=some o from ev')
  cases d with
  | bl b =>
   refine qt Ge H' F' Z' τ' x b _ e1 sr' λH1 F1 g1=>?_
   cases b with
   | false =>
    cases e2
    exact n9 (en τ' H1 F1 (kp'.trans g1.keep) (gr'.trans g1) (sr'.grow g1))
   | true =>
    obtain⟨o1,b2,e3⟩:=af (show ((ak call Z' cb).bind (kO (ie (fun Z'=>aa call Z' c) (fun Z'=>ak call Z' cb) m)))=some o from e2)
    refine oa ?_
    cases o1 with
    | nx Z2=>exact⟨fun τ2 H2=>∃F2,SR X.K Ge H2 F2 Z2 τ2/\Gr Ge F0 H2 F2/\Keep H F H2 F2,fun τ2 H2 ⟨F2,q1,q2,q3⟩=>⟨m,by omega,F2,Z2,q1,q2,q3,e3⟩,qb Ge F0 H1 F1 Z' τ' (.nx Z2) _ b2 (sr'.grow g1) (gr'.trans g1) fun τ5 H5 F5 k5 g5 s5=>⟨F5,s5,g5,(kp'.trans g1.keep).trans k5⟩⟩
    | ct Z2=>exact⟨fun τ2 H2=>∃F2,SR X.K Ge H2 F2 Z2 τ2/\Gr Ge F0 H2 F2/\Keep H F H2 F2,fun τ2 H2 ⟨F2,q1,q2,q3⟩=>⟨m,by omega,F2,Z2,q1,q2,q3,e3⟩,qb Ge F0 H1 F1 Z' τ' (.ct Z2) _ b2 (sr'.grow g1) (gr'.trans g1) fun τ5 H5 F5 k5 g5 s5=>⟨F5,s5,g5,(kp'.trans g1.keep).trans k5⟩⟩
    | bk Z2 =>
     cases e3
     exact⟨λ_ _=>False,λ_ _ z=>z.elim,qb Ge F0 H1 F1 Z' τ' (.bk Z2) _ b2 (sr'.grow g1) (gr'.trans g1) fun τ5 H5 F5 k5 g5 s5=>en τ5 H5 F5 ((kp'.trans g1.keep).trans k5) g5 s5⟩
    | rt r =>
     cases e3
     exact⟨λ_ _=>False,λ_ _ z=>z.elim,qb Ge F0 H1 F1 Z' τ' (.rt r) _ b2 (sr'.grow g1) (gr'.trans g1) en⟩
  | _=>cases e2
theorem xA {e:Expr}{c:C}{spos:Pos}(h:SndE call X e c) (hc:¬∃i,c=.v i):di call X (.Return (some e) spos) [.ret c]:=by
 obtain⟨te,pe,qe⟩:=h
 refine⟨_,xu pe,λGe F0 H F Z τ o Dn hvv hs gr en=>?_⟩
 rw [gY,pN] at hvv
 obtain⟨r,e1,e2⟩:=af hvv
 cases e2
 have e1':aa call Z c=some r:=by
  cases c with
  | v i=>exact Qn ⟨i,rfl⟩ hc
  | _=>exact e1
 exact qe Ge H F Z τ r _ e1' hs λv H' F' g' rr=>en v H' F' (gr.trans g') (rr.back hs.ent)
theorem qMZ (hG:∀x∈bQ,G.defs.lookup x=none) (g:XG call G k X sc N) (h:cE G n sc N e=some c):di call X (.Return (some e) spos) [.ret c]:=by
 have ok:=(jK (call:=call) (k:=k) hG n).e X sc N e c g h
 by_cases hc:∃i,c=.v i
 ·obtain⟨i,rfl⟩:=hc
  cases n with
  | zero=>cases h
  | succ n =>
   have hn:∃x p,e=.Name x p/\cV sc N x=some i:=by
    rcases ok.nv with ⟨x,p,rfl⟩|z
    ·exact⟨x,p,rfl,qOi h⟩
    ·exact Qn rfl (z i)
   obtain⟨x,p,rfl,hv⟩:=hn
   obtain⟨h1,h2,h3,h4⟩:=mJ g hv
   refine⟨_,xu (jb h1 h2 h3 h4),λGe F0 H F Z τ o Dn hvv hs gr en=>?_⟩
   rw [gY,pN] at hvv
   obtain⟨r,e1,e2⟩:=af hvv
   cases e2
   have e1:(ao Z i).bind vM=some r:=e1
   obtain⟨⟨b,d⟩,e0,e1⟩:=af e1
   cases b with
   | false =>
    cases e1
    obtain⟨v,q1,q2⟩:=hs.val i d e0
    exact⟨v,q1,en v H F gr q2⟩
   | true =>
    cases d with
    | lst ds0 =>
     cases e1
     obtain⟨a,ds,vs,q1,q2,q3,q4,q5,q6⟩:=hs.own i _ e0 rfl
     exact⟨.ref a,q2,en _ H F gr ⟨a,ds,vs,q1,rfl,q3,q4,q5,q6⟩⟩
    | _=>cases e1
 ·exact xA ok.he hc
theorem v9 {t:Expr}{c:C}{a b:List Stmt}{ca cb:List S}{spos:Pos}(h:dj call X t c) (ha:fC call X a ca) (hb:fC call X b cb):di call X (.If t a b spos) [.ite c ca cb]:=by
 obtain⟨tt,pt,qt⟩:=h
 obtain⟨ta,pa,qa⟩:=ha
 obtain⟨tb,pb,qb⟩:=hb
 refine⟨_,qRX pt pa pb,λGe F0 H F Z τ o Dn hvv hs gr en=>?_⟩
 rw [gY,yq] at hvv
 obtain⟨r,e1,e2⟩:=af hvv
 obtain⟨x,d⟩:=r
 cases d with
 | bl bb =>
  refine qt Ge H F Z τ x bb _ e1 hs λH' F' g'=>?_
  cases bb with
  | true=>exact oa (qa Ge F0 H' F' Z τ o Dn e2 (hs.grow g') (gr.trans g') (en.mv g'.keep))
  | false=>exact n9 (qb Ge F0 H' F' Z τ o Dn e2 (hs.grow g') (gr.trans g') (en.mv g'.keep))
 | _=>cases e2
theorem qPg (A:AllE call G k n) (g:XG call G k X sc N) (h:cE G n sc N t=some c) (ha:fC call X a ca) (hb:fC call X b cb):di call X (.If t a b spos) [.ite c ca cb]:=v9 (A.e X sc N t c g h).ht ha hb
theorem sX (g:XG call G k X sc N) (ht:fe sc N tg=some t) (hi:SndI X tg it b src) (hf:∀x,foldedSetIterable it X.env x=pure x) (hb:fC call X body cb)
  (hv:∀Z o,dD call Z s=some o->∃its,src Z=some its/\bV call cb t its Z=some o):di call X (.For tg it body [] spos) [s]:=by
 obtain⟨wi,pi,qi⟩:=hi
 obtain⟨tb,pb,qb⟩:=hb
 have pg:=sY g ht
 refine⟨_,qPC (by rw [g.xe];exact PassesOwn.never) g.calm pi pg pb hf,λGe F0 H F Z τ o Dn hvv hs gr en=>?_⟩
 rw [gY] at hvv
 obtain⟨its,e1,e2⟩:=hv Z o hvv
 refine qi Ge H F Z τ its _ e1 hs λJ H1 F1 g1 fS _=>?_
 refine⟨λi m τ' H'=>i<=its.length/\m=its.length - i/\∃F' Z',SR X.K Ge H' F' Z' τ'/\Gr Ge F0 H' F'/\Keep H1 F1 H' F'/\bV call cb t (its.drop i) Z'=some o,⟨its.length,fx _,rfl,F1,Z,hs.grow g1,gr.trans g1,Keep.refl,by simpa using e2⟩,?_⟩
 rintro i m τ' H' ⟨hi,rfl,F',Z',sr',gr',kp',ev'⟩
 obtain⟨okI,okS⟩:=fS H' F' kp' gr'.dom
 by_cases hlt:i<its.length
 ·refine .inr ?_
  have hdi:its[i]?=some its[i]:=cz hlt
  obtain⟨go,yl⟩:=okI i _ hdi
  have hdr:its.drop i=its[i]::its.drop (i+1):=kD hlt
  rw [hdr,Ao] at ev'
  obtain⟨Z1,b1,ev'⟩:=af ev'
  obtain⟨o1,b2,ev'⟩:=af ev'
  cases o1 with
  | nx Z2 =>
   refine⟨go,fun τ2 H2=>∃F2,SR X.K Ge H2 F2 Z2 τ2/\Gr Ge F0 H2 F2/\Keep H1 F1 H2 F2,fun τ2 H2 ⟨F2,q1,q2,q3⟩=>⟨its.length - (i+1),by omega,hlt,rfl,F2,Z2,q1,q2,q3,ev'⟩,λx H3 y=>?_⟩
   obtain⟨F3,g3,rd3⟩:=yl x H3 y
   refine mV (sr'.grow g3) b1 rd3 fun τ4 s4=>?_
   exact qb Ge F0 H3 F3 Z1 τ4 (.nx Z2) _ b2 s4 (gr'.trans g3) fun τ5 H5 F5 k5 g5 s5=>⟨F5,s5,g5,(kp'.trans g3.keep).trans k5⟩
  | rt r =>
   cases ev'
   refine⟨go,λ_ _=>False,λ_ _ z=>z.elim,λx H3 y=>?_⟩
   obtain⟨F3,g3,rd3⟩:=yl x H3 y
   refine mV (sr'.grow g3) b1 rd3 fun τ4 s4=>?_
   exact qb Ge F0 H3 F3 Z1 τ4 (.rt r) _ b2 s4 (gr'.trans g3) en
  | ct Z2 =>
   refine⟨go,fun τ2 H2=>∃F2,SR X.K Ge H2 F2 Z2 τ2/\Gr Ge F0 H2 F2/\Keep H1 F1 H2 F2,fun τ2 H2 ⟨F2,q1,q2,q3⟩=>⟨its.length - (i+1),by omega,hlt,rfl,F2,Z2,q1,q2,q3,ev'⟩,λx H3 y=>?_⟩
   obtain⟨F3,g3,rd3⟩:=yl x H3 y
   refine mV (sr'.grow g3) b1 rd3 fun τ4 s4=>?_
   exact qb Ge F0 H3 F3 Z1 τ4 (.ct Z2) _ b2 s4 (gr'.trans g3) fun τ5 H5 F5 k5 g5 s5=>⟨F5,s5,g5,(kp'.trans g3.keep).trans k5⟩
  | bk Z2 =>
   cases ev'
   refine⟨go,λ_ _=>False,λ_ _ z=>z.elim,λx H3 y=>?_⟩
   obtain⟨F3,g3,rd3⟩:=yl x H3 y
   refine mV (sr'.grow g3) b1 rd3 fun τ4 s4=>?_
   exact qb Ge F0 H3 F3 Z1 τ4 (.bk Z2) _ b2 s4 (gr'.trans g3) fun τ5 H5 F5 k5 g5 s5=>en τ5 H5 F5 (((g1.keep.trans kp').trans g3.keep).trans k5) g5 s5
 ·have hin:i=its.length:=by omega
  subst hin
  rw [List.drop_of_length_le (ar _)] at ev'
  cases ev'
  exact .inl ⟨okS,en τ' H' F' (g1.keep.trans kp') gr' sr'⟩
end
end Dw
namespace Dw
open PySem PySem.Spec PyProof.Rows L2
section
variable {call:Nat->List D->Option R}{G:Gx}{k:Nat}
structure AllS (call:Nat->List D->Option R) (G:Gx) (k n:Nat):Prop where
 o:∀(X:Cx) (sc:Scope) (N:List Str) (mt:List Nat) (st:Stmt) (cs:List S),XG call G k X sc N->cS G n sc N mt st=some cs->di call X st cs
 s:∀(X:Cx) (sc:Scope) (N:List Str) (mt:List Nat) (st:List Stmt) (cs:List S),XG call G k X sc N->eY G n sc N mt st=some cs->fC call X st cs
theorem qJF (h:fe sc N tg=some t):(∃y q,tg=.Name y q)∨∃es kk q,tg=.Tuple es kk q:=by
 unfold fe at h
 cases ht:fg sc N tg with
 | some t' =>
  cases tg with
  | Name y q=>exact .inl ⟨y,q,rfl⟩
  | Tuple es kk q=>exact .inr ⟨es,kk,q,rfl⟩
  | _=>cases ht
 | none =>
  rw [ht] at h
  cases tg with
  | Name y q=>exact .inl ⟨y,q,rfl⟩
  | Tuple es kk q=>exact .inr ⟨es,kk,q,rfl⟩
  | _=>cases h
theorem xS {e:Expr}{x m:Str}{p2:Pos}(h:nZ e=some (x,m,p2)):∃p,e=.Attribute (.Name x p) m p2:=by
 unfold nZ at h
 split at h
 ·cases h;exact⟨_,rfl⟩
 ·cases h
theorem qNo {e:Expr}{x m:Str}{p2 p3:Pos}(h:rG e=some (x,m,p2,p3)):∃p,e=.Call (.Attribute (.Name x p) m p2) [] [] p3:=by
 unfold rG at h
 split at h
 ·obtain⟨⟨a,b,c⟩,e1,e2⟩:=yad.mp h
  obtain⟨p,rfl⟩:=xS e1
  cases e2
  exact⟨_,rfl⟩
 ·cases h
theorem zK {e:Expr}{x:Str}(h:oM e=some x):∃p,e=.Name x p:=by
 unfold oM at h
 split at h
 ·cases h;exact⟨_,rfl⟩
 ·cases h
theorem qMw {tg e:Expr}{es:List Expr}(h:rH tg e=some es):∃kk q,tg=.Tuple es kk q/\((∃f as ks pc,e=.Call f as ks pc)∨∃x p,e=.Name x p):=by
 unfold rH at h
 split at h
 ·cases h
  exact⟨_,_,rfl,.inl ⟨_,_,_,_,rfl⟩⟩
 ·cases h
  exact⟨_,_,rfl,.inr ⟨_,_,rfl⟩⟩
 ·cases h
theorem zw (hG:∀x∈bQ,G.defs.lookup x=none) (g:XG call G k X sc N) {mt:List Nat}{x:Str}{e:Expr}{cs:List S}{p pos:Pos}(h:n4 G n sc N mt x e=some cs):di call X (.Assign [.Name x p] e pos) cs:=by
 unfold n4 at h
 split at h
 ·rename_i hx
  obtain⟨i,e1,e2⟩:=af h
  split at e2
  ·cases e2
  ·rename_i h0
   obtain⟨c,e3,e4⟩:=af e2
   cases e4
   exact gZ (qMW hG g (λz y=>h0 (by rw [z,y];rfl)) e3 hx e1)
 ·cases h
theorem qMO (hG:∀x∈bQ,G.defs.lookup x=none) (B:AllS call G k n):AllS call G k (n+1):=by
 have A:=jK (call:=call) (k:=k) hG n
 constructor
 ·intro X sc N mt st cs g h
  unfold cS at h
  split at h
  ·rename_i tg e pos
   unfold AU at h
   split at h
   ·rename_i x m p2 p3 hp
    obtain⟨p,rfl⟩:=qNo hp
    split at h
    ·rename_i hm
     rw [aI] at hm
     obtain⟨t,e1,e2⟩:=af h
     obtain⟨i,e3,e4⟩:=af e2
     cases e4
     have hk:=qJF e1
     rcases hk with ⟨y,q,rfl⟩|⟨es,kk,q,rfl⟩
     ·exact yy g (by simpa using hm.1) hm.2 e1 e3 rfl rfl rfl
     ·exact yy g (by simpa using hm.1) hm.2 e1 e3 rfl rfl rfl
    ·obtain⟨y,e1,h⟩:=af h
     obtain⟨q,rfl⟩:=zK e1
     exact zw hG g h
   ·split at h
    ·rename_i es ht
     obtain⟨is,e1,e2⟩:=af h
     obtain⟨c,e3,e4⟩:=af e2
     cases e4
     obtain⟨kk,q,rfl,⟨f,as,ks,pc,rfl⟩|⟨x,p,rfl⟩⟩:=qMw ht
     ·exact gZ (qJ2 A g e1 e3)
     ·exact gZ (qHA A g e1 e3)
    obtain⟨x,e1,h2⟩:=af h
    clear h
    obtain⟨q,rfl⟩:=zK e1
    exact zw hG g h2
  ·rename_i f e p3 pos
   split at h
   ·rename_i x m p2 hp
    obtain⟨p,rfl⟩:=xS hp
    split at h
    ·rename_i hm
     rw [aI] at hm
     obtain⟨i,e1,e2⟩:=af h
     obtain⟨c,e3,e4⟩:=af e2
     cases e4
     exact gZ (qM8 A g (by simpa using hm.1) hm.2 e1 e3)
    ·split at h
     ·rename_i hm
      rw [aI] at hm
      obtain⟨i,e1,e2⟩:=af h
      obtain⟨c,e3,e4⟩:=af e2
      cases e4
      exact gZ (qM4 A g (by simpa using hm.1) hm.2 e1 e3)
     ·cases h
   ·cases h
  ·rename_i t body pos
   obtain⟨c,e1,e2⟩:=af h
   obtain⟨cb,e3,e4⟩:=af e2
   cases e4
   exact gZ (qHr A g e1 (B.s X sc N mt body cb g e3))
  ·rename_i e pos
   obtain⟨c,e1,e2⟩:=af h
   cases e2
   exact gZ (qMZ hG g e1)
  ·rename_i t a b pos
   obtain⟨c,e1,e2⟩:=af h
   obtain⟨ca,e3,e4⟩:=af e2
   obtain⟨cb,e5,e6⟩:=af e4
   cases e6
   exact gZ (qPg A g e1 (B.s X sc N mt a ca g e3) (B.s X sc N mt b cb g e5))
  ·rename_i tg it body pos
   obtain⟨t,e1,e2⟩:=af h
   obtain⟨cb,e3,e4⟩:=af e2
   have hb:=B.s X sc N mt body cb g e3
   have hsr:=vK (sc:=sc) it
   cases hq:jE sc it with
   | seq s =>
    rw [hq] at e4 hsr
    obtain⟨x,q1,q2⟩:=af e4
    cases q2
    cases hsr
    refine gZ (sX g e1 (yA A g q1) (sU q1 X.env) hb fun Z o hv=>?_)
    rw [zi] at hv
    obtain⟨r,r1,r2⟩:=af hv
    obtain⟨its,r3,r4⟩:=af r2
    exact⟨its,by simp only [r1];exact r3,r4⟩
   | rng rs =>
    rw [hq] at e4 hsr
    obtain⟨xs,q1,q2⟩:=af e4
    cases q2
    cases hsr with
    | rng f p as pos2 hg hf hl =>
     refine gZ (sX g e1 (yz (p:=p) (pos:=pos2) A g hG hg hf hl q1) (λ_=>rfl) hb fun Z o hv=>?_)
     rw [zh] at hv
     obtain⟨r,r1,r2⟩:=af hv
     obtain⟨its,r3,r4⟩:=af r2
     exact⟨its,by simp only [r1];exact r3,r4⟩
   | zip a b =>
    rw [hq] at e4 hsr
    simp only at e4
    split at e4
    ·rename_i h2
     obtain⟨x,q1,q2⟩:=af e4
     obtain⟨y,q3,q4⟩:=af q2
     cases q4
     obtain⟨es,kk,tp,rfl⟩:=tK (tm e1 h2) h2
     cases hsr with
     | zip f p a b pos2 hg hf =>
      refine gZ (sX g e1 (yB (p:=p) (pos:=pos2) A g hG hg hf q1 q3) (λ_=>rfl) hb fun Z o hv=>?_)
      rw [zj] at hv
      obtain⟨z,r1,r2⟩:=af hv
      obtain⟨z2,r3,r4⟩:=af r2
      obtain⟨xs,r5,r6⟩:=af r4
      obtain⟨ys,r7,r8⟩:=af r6
      exact⟨bN xs ys,by simp only [r1,r3,r5,r7,bL],r8⟩
    ·cases e4
   | enm a=>rw [hq] at e4;cases e4
   | rev rs=>rw [hq] at e4;cases e4
  ·cases h
 ·intro X sc N mt st cs g h
  unfold eY at h
  split at h
  ·cases h;exact yv
  ·rename_i a r
   obtain⟨x,e1,e2⟩:=af h
   obtain⟨y,e3,e4⟩:=af e2
   cases e4
   exact tS (B.o X sc N mt a x g e1) (B.s X sc N mt r y g e3)
theorem qMN:AllS call G k 0:=by
 constructor
 ·intro X sc N mt st cs _ h;cases h
 ·intro X sc N mt st cs _ h;cases h
theorem pz (hG:∀x∈bQ,G.defs.lookup x=none):∀n,AllS call G k n
 | 0=>qMN
 | n+1=>qMO hG (pz hG n)
end
structure FunD (K:Qb) (x qual:Str) (st:Stmt) (f:Addr) (fd:FuncData):Prop where
 ex:∃(oc:Value) (od:Option Addr) (dV kV doc pm:Value) (an:Option Addr) (cdv ct:Value) (osl:Array (Option Value)),
  fd=PySem.W.fnOf x qual (fQ st) (bT st) (ay st) dV kV doc pm an cdv ct/\K.lookup f=some ⟨oc,od,.func fd,osl⟩/\PySem.W.codeIn K cdv qual=true
 kp:PySem.W.keepIn K (.ref f)=true
theorem x5 {K:Qb}{x qual:Str}{st:Stmt}{f:Addr}{fd:FuncData}(F:Fun K x qual st f fd):FunD K x qual st f fd:=by
 obtain⟨⟨oc,od,kV,doc,pm,an,cdv,ct,osl,h1,h2,h3⟩,kp⟩:=F
 exact⟨⟨oc,od,.none,kV,doc,pm,an,cdv,ct,osl,h1,h2,h3⟩,kp⟩
theorem FunD.ok {w:World}{K:Qb}{mg:Str->Option Value}{base:Heap}{x qual:Str}{st:Stmt}{f:Addr}{fd:FuncData}{N ps:List Str}{k:Nat}{sp:Sp}(F:FunD K x qual st f fd) (S:FnScope N ps (ay st)) (len:∀vs H Q E,sp vs H Q E->vs.length=ps.length)
  (body:∀(cdv:Value) (A:Around) (outer:List Env) (s:Shared) (H:Hp) (vs:List V) (Q:VK) (E:XK),Room k (A.deeper (envOfC qual (ay st) s.heap.objs.size f cdv))->sp vs H Q E ->
   ∃t,PSs (i7 fw P w K mg base N qual (ay st) f cdv A outer s H E).nox (bT st) t/\t { nx:=λ_ H'=>Q .non H',rt:=Q } (start N vs) H):FnOk P w K mg base fw (k+1) f fd ps sp:=by
 obtain⟨oc,od,dV,kV,doc,pm,an,cdv,ct,osl,rfl,lk,hcd⟩:=F.ex
 refine wy lk hcd S len λA outer s H vs Q E hr h=>?_
 obtain⟨t,h1,h2⟩:=body cdv A outer s H vs Q E hr h
 exact⟨t,h1.nox,h2⟩
structure DefIn (K:Qb) (mg:Str->Option Value) (G:Gx) (tab:List Fd) (fuel:Nat) (x:Str) (i:Nat):Prop where
 ex:∃(a:Addr) (fdt:FuncData) (st:Stmt) (ps:List Str) (fd:Fd),mg x=some (.ref a)/\FunD K x x st a fdt/\Binds K fdt ps []/\FnScope (bP (ay st)) ps (ay st) /\
  eY G fuel (ay st) (bP (ay st)) (gN fuel (bP (ay st)) (bT st)) (bT st)=some fd.body/\tab[i]?=some fd/\fd.np=ps.length/\fd.ns=(bP (ay st)).length/\∀m d,G.dfl.lookup x=some (m,d)->∃t,Binds K fdt ps [.int d t]
theorem tL (ht:tab[i]?=some fd) (h:aD tab n i ds=some r):ds.length=fd.np:=by
 cases n with
 | zero=>cases h
 | succ n =>
  rw [mN ht] at h
  unfold i0 at h
  split at h
  ·assumption
  ·cases h
section
variable {P:Program}{w:World}{K:Qb}{mg:Str->Option Value}{base:Heap}{G:Gx}{tab:List Fd}{fuel:Nat}
theorem pJ:∀{b:Bool}{ds:List D}{m i:Nat}{r:R},ao (bX b ds++List.replicate m none) i=some r->∃d,ds[i]?=some d/\r=(jA d,d)
 | b,[],m,i,r,h=>by
  unfold ao at h
  rw [show bX b []=[] by cases b<;>rfl,iE,kA] at h
  split at h<;>cases h
 | b,d::ds,m,i,r,h=>by
  cases i with
  | zero =>
   refine⟨d,rfl,?_⟩
   cases b<;>cases d<;>first|(cases h;rfl)|cases h
  | succ i =>
   have:∃b',ao (bX b' ds++List.replicate m none) i=some r:=by
    cases b<;>cases d<;>first|exact⟨false,h⟩|exact⟨true,h⟩
   obtain⟨b',h'⟩:=this
   obtain⟨d',q1,q2⟩:=pJ h'
   exact⟨d',by simpa using q1,q2⟩
theorem tq:∀{ds:List D}{m i:Nat}{d:D},ao (bX true ds++List.replicate m none) i=some (true,d)->False
 | [],m,i,d,h=>by
  unfold ao at h
  rw [show bX true []=[] from rfl,iE,kA] at h
  split at h<;>cases h
 | x::ds,m,i,d,h=>by
  cases i with
  | zero=>cases x<;>cases h
  | succ i=>exact tq (ds:=ds) (m:=m) (i:=i) (d:=d) (by cases x<;>exact h)
theorem xP:∀{ds:List D}{m i j:Nat}{d e:D},ao (bX false ds++List.replicate m none) i=some (true,d)->ao (bX false ds++List.replicate m none) j=some (true,e)->i=j
 | [],m,i,j,d,e,h,h'=>by
  unfold ao at h
  rw [show bX false []=[] from rfl,iE,kA] at h
  split at h<;>cases h
 | x::ds,m,i,j,d,e,h,h'=>by
  cases hx:jA x with
  | true =>
   cases x with
   | dct m' ks =>
    cases i with
    | zero =>
     cases j with
     | zero=>rfl
     | succ j=>exact Qn h' (λz=>tq (ds:=ds) (m:=m) (i:=j) z)
    | succ i=>exact Qn h (λz=>tq (ds:=ds) (m:=m) (i:=i) z)
   | _=>cases hx
  | false =>
   have e1:bX false (x::ds)=some (false,x)::bX false ds:=by cases x<;>first|rfl|cases hx
   rw [e1] at h h'
   cases i with
   | zero=>cases h
   | succ i =>
    cases j with
    | zero=>cases h'
    | succ j=>rw [xP (ds:=ds) (m:=m) (i:=i) (j:=j) h h']
theorem xO:∀(b:Bool) (ds:List D),(bX b ds).length=ds.length
 | b,[]=>by cases b<;>rfl
 | b,d::ds=>by cases b<;>cases d<;>(show (bX _ ds).length+1=_;rw [xO];rfl)
theorem tT (tb:TB H) (dom:∀a,H a=none->¬F a) (h:RGs K H F ds vs) (hm:m=N.length - vs.length):SR K ⟨H,none,tb⟩ H F (bX false ds++List.replicate m none) (L2.start N vs):=by
 have hl:=RGs.length h
 have at_:∀{i:Nat} {v:V},vs[i]?=some v->(L2.start N vs)[i]?=some (some v):=λ{i v} q1=>by
  unfold L2.start
  obtain⟨hi,_⟩:=yao.mp q1
  rw [jq (by simpa using hi),cu,q1]
  rfl
 refine⟨by simp [L2.start,hl,hm,xO],Same.refl H,dom,λi d e=>?_,λi d e hd=>?_,λi j d e h1 h2 _=>xP h1 h2,λi m' ks e=>?_,λ_ _ z=>nomatch z⟩
 ·obtain⟨d',e1,e2⟩:=pJ e
  have hd:jA d'=false:=(lR e2).1.symm
  have hd2:d=d':=(lR e2).2
  subst hd2
  obtain⟨v,q1,q2⟩:=RGs.get h e1
  refine⟨v,at_ q1,q2.elim (λz=>z) λ⟨a,ks,z,_⟩=>?_⟩
  subst z
  cases hd
 ·obtain⟨d',e1,e2⟩:=pJ e
  have hd1:true=jA d':=(lR e2).1
  have hd2:d=d':=(lR e2).2
  subst hd2
  rw [hd] at hd1
  cases hd1
 ·obtain⟨d',e1,e2⟩:=pJ e
  have hd2:D.dct m' ks=d':=(lR e2).2
  subst hd2
  obtain⟨v,q1,q2⟩:=RGs.get h e1
  rcases q2 with z|⟨a,ks',z1,z2,z3,z4⟩
  ·exact False.elim z
  ·cases z1
   subst z2
   exact⟨a,at_ q1,z3,z4,λz=>nomatch z⟩
theorem xZ:FnOk P w K mg base fw 2 a fdt ps (jr K ps.length (aD tab 0 i)):=
 ⟨λ_ _ _ _ h=>h.1,λA outer s H args us vs Q E _ _ _ _ h=>by obtain⟨_,F,ds,r,_,_,_,z,_⟩:=h;cases z⟩
structure LamIn (G:Gx) (tab:List Fd) (fuel:Nat) (j:Nat) (L:LamD):Prop where
 ex:∃(ps:List Str) (ce:C) (fd:Fd),tab[j]?=some fd/\fd.body=[.ret ce]/\fd.np=ps.length+(aB L.sc).length/\fd.ns=ps.length+(aB L.sc).length/\cE G fuel L.sc (ps++aB L.sc) L.e=some ce/\(ps++aB L.sc).Nodup/\(∀i,ce≠.v i) /\
  L.sc.kind=.function/\L.sc.isCoroutine=false/\L.sc.isGenerator=false/\(∀y∈L.sc.names,y.2≠.cell)/\(∀x∈ps,L.sc.names.lookup x=some .local)/\(∀y∈aB L.sc,L.sc.names.lookup y=some .free) /\
  ∀clos pm c ctv (us:List Value),us.length=ps.length->bindArgs (PySem.W.kla_fn "<lambda>" L.q L.la L.e L.sc clos pm (.ref c) ctv) ⟨us,[]⟩=pure (ps.zip us)
theorem qKV {call:Nat->List D->Option R}{k:Nat}{j:Nat}{L:LamD}(hn:∀as,call j as=none) (hL:LamIn G tab fuel j L):Dfl call k P w K mg base j L:=by
 obtain⟨ps,ce,fd,t1,t2,t3,t4,t5,t6,t7,s1,s2,s3,s4,s5,s6,s7⟩:=hL.ex
 exact⟨ps,s1,s2,s3,s4,s5,s6,(ycc.mp t6).1,s7,λas r h=>(by rw [hn] at h;cases h),λf c clos A outer s H0 hr=>⟨λ_ _ _=>False,λ_ _ _ _ _ _ z=>z.elim,λH F es ds ws vs r Q tb dom hcall=>by rw [hn] at hcall;cases hcall⟩⟩
variable {P:Program}{w:World}{K:Qb}{mg:Str->Option Value}{base:Heap}{G:Gx}{tab:List Fd}{fuel:Nat} in
theorem qOy (hb:∀x∈bQ,mg x=none) (hc:CnD P w K mg G) {call:Nat->List D->Option R}{k:Nat}
  (hdf:∀x i,G.defs.lookup x=some i->∀X:Cx,X.prog=P->X.w=w->X.K=K->X.mg=mg->X.base=base->Dfn G call k X x i) (hlf:∀i L,lamX.lookup i=some L->Dfl call k P w K mg base i L)
  {L:LamD} {ps:List Str} (nd:(ps++aB L.sc).Nodup) (nc:∀y∈L.sc.names,y.2≠.cell) {f c:Addr} {clos:List (Str×Addr)} {A:Around} {outer:List Env} {s:Shared} {H0:Hp} (hr:Room k (A.deeper (PySem.W.envX L.q L.sc s.heap.objs.size f (.ref c) clos))) :
  XG call G k (kM P w K mg base (ps++aB L.sc) L.q L.sc f (.ref c) clos A outer s H0) L.sc (ps++aB L.sc):=by
 refine⟨rfl,nd,λy h=>?_,λy h=>?_,λy h=>?_,λy h=>?_,rfl,rfl,hr,λy j h=>hdf y j h _ rfl rfl rfl rfl rfl,λy _ h=>hb y h,hc,hlf⟩
 ·unfold jD at h
  simp only [dZ,beq_iff_eq] at h
  rcases h with (h|h)|h
  ·exact .inl h
  ·exact .inr (.inl h)
  ·exact .inr (.inr h)
 ·simp only [dZ,beq_iff_eq] at h
  rcases h with h|h
  ·exact⟨.inl h,.inr h⟩
  ·exact Qn rfl (nc _ (dg h))
 ·unfold bt at h
  rw [beq_iff_eq] at h
  exact h
 ·unfold jw at h
  simp only [dZ,beq_iff_eq] at h
  exact h
theorem qKC (hG:∀x∈bQ,G.defs.lookup x=none) (hb:∀x∈bQ,mg x=none) (hc:CnD P w K mg G) {n:Nat}
  (hdf:∀x i,G.defs.lookup x=some i->∀X:Cx,X.prog=P->X.w=w->X.K=K->X.mg=mg->X.base=base->Dfn G (aD tab n) (n+2) X x i) (hlf:∀i L,lamX.lookup i=some L->Dfl (aD tab n) (n+2) P w K mg base i L)
  {j:Nat} {L:LamD} (hL:LamIn G tab fuel j L):Dfl (aD tab (n+1)) (n+3) P w K mg base j L:=by
 obtain⟨px,ce,fd,t1,t2,t3,t4,t5,t6,t7,s1,s2,s3,s4,s5,s6,s7⟩:=hL.ex
 refine⟨px,s1,s2,s3,s4,s5,s6,(ycc.mp t6).1,s7,λas r h=>(tL t1 h).trans t3,λf c clos A outer s H0 hr=>?_⟩
 have g:XG (aD tab n) G (n+2) (kM P w K mg base (px++aB L.sc) L.q L.sc f (.ref c) clos A outer s H0) L.sc (px++aB L.sc):=qOy hb hc hdf hlf t6 s4 (hr.deeper _)
 obtain⟨t,pt,qt⟩:=((jK (call:=aD tab n) (k:=n+2) hG fuel).e _ _ _ _ _ g t5).he
 refine⟨t,pt,λH F es ds ws vs r Q tb dom hcall rd rds hw hlen hq=>?_⟩
 rw [mN t1] at hcall
 unfold i0 at hcall
 split at hcall
 ·rename_i hal
  obtain⟨o,e1,e2⟩:=af hcall
  rw [t2,eD] at e1
  obtain⟨o1,e3,e4⟩:=af e1
  rw [pN] at e3
  obtain⟨r1,e5,e6⟩:=af e3
  cases e6
  cases e4
  cases e2
  have e5:aa (aD tab n) (bX false (es++ds)++List.replicate (fd.ns - fd.np) none) ce=some r:=by
   cases ce<;>first|exact e5|exact Qn rfl (t7 _)
  have hv:(ws++vs).length=(px++aB L.sc).length:=by simp [hlen,hw]
  have st:L2.start (px++aB L.sc) (ws++vs)=ws.map some++vs.map some:=by
   unfold L2.start
   rw [hv,nI]
   simp
  have sr:=tT (K:=K) (N:=px++aB L.sc) (vs:=ws++vs) (ds:=es++ds) (m:=fd.ns - fd.np) tb dom (RGs.of (RDs.append rd rds)) (by rw [t3,t4,hv];simp)
  rw [st] at sr
  exact qt ⟨H,none,tb⟩ H F _ _ r Q e5 sr hq
 ·cases hcall
def vP (K:Qb) (mg:Str->Option Value) (Pt:Addr):Prop:=∃bm o,mg "__builtins__"=some (.ref bm)/\bm≠builtinsNs/\bm≠mainGlobals/\bm≠Pt/\K.lookup bm=some o/\o.cls=.type "module"/\o.dict=some builtinsNs/\o.data=.plain
def v8 (G:Gx) (fuel:Nat) (sc:Scope) (N:List Str) (mt:List Nat) (sL:Stmt) (sC:List S) (e:Expr) (c:C):Prop:=
 (∃p,sL=.Return (some e) p/\sC=[.ret c])∨(∃x py sp i keep,sL=.Assign [.Name x py] e sp/\sC=[.set i keep c]/\(sc.names.lookup x == some .local||sc.names.lookup x == some .cell)=true/\bF N x=some i/\(keep=true->i≠0)) ∨
 ∃q sp a ca,sL=.If (.UnaryOp .Not e q) a [] sp/\sC=[.ite (.not c) ca []]/\eY G fuel sc N mt a=some ca
def uU (G:Gx) (fuel:Nat) (sc:Scope) (N:List Str):List Expr->List C->Prop
 | [],[]=>True
 | e::es,c::cs=>cE G fuel sc N e=some c/\uU G fuel sc N es cs
 | _,_=>False
structure LamBody (G:Gx) (fuel:Nat) (sc:Scope) (N:List Str) (mt:List Nat) (body:List Stmt) (cb:List S) (L:LamD) (j:Nat):Prop where
 ex:∃(pre post:List Stmt) (pre' post':List S) (sL:Stmt) (sC:List S) (g:Str) (p1 p2:Pos) (es:List Expr) (cs:List C) (ig:Nat) (ks:List Nat),body=pre++sL::post/\cb=pre'++(sC++post')/\eY G fuel sc N mt pre=some pre'/\eY G fuel sc N mt post=some post' /\
  v8 G fuel sc N mt sL sC (.Call (.Name g p1) (es++[.Lambda L.la L.e L.sc L.pos]) [] p2) (.lamc ig cs j ks)/\G.defs.lookup g=some ig/\bt sc g=true/\(g == ("__debug__":Str))=false/\uU G fuel sc N es cs/\cm (hZ sc N) (aB L.sc)=some ks
structure LdIn (K:Qb) (mg:Str->Option Value) (G:Gx) (tab:List Fd) (fuel:Nat) (x:Str) (i:Nat):Prop where
 ex:∃(a c:Addr) (st:Stmt) (ps:List Str) (fd:Fd) (oc dV kV doc pm ct:Value) (od an:Option Addr) (osl:Array (Option Value)) (j:Nat) (L:LamD),mg x=some (.ref a)/\PySem.W.keepIn K (.ref a)=true /\
  K.lookup a=some ⟨oc,od,.func (PySem.W.fnOf x x (fQ st) (bT st) (ay st) dV kV doc pm an (.ref c) ct),osl⟩/\Binds K (PySem.W.fnOf x x (fQ st) (bT st) (ay st) dV kV doc pm an (.ref c) ct) ps []/\PySem.W.codeIn K (.ref c) x=true/\PySem.W.codeHdIn K c L.P=true/\vP K mg L.P /\
  FnScope (bP (ay st)) ps (ay st)/\tab[i]?=some fd/\fd.np=ps.length/\fd.ns=(bP (ay st)).length /\
  LamBody G fuel (ay st) (bP (ay st)) (gN fuel (bP (ay st)) (bT st)) (bT st) fd.body L j/\lamX.lookup j=some L/\ScOk L.sc/\x++".<locals>.<lambda>"=L.q/\(∀env,defaultsOf L.la env=([],[])) /\
  ∀m d,G.dfl.lookup x=some (m,d)->∃t,Binds K (PySem.W.fnOf x x (fQ st) (bT st) (ay st) dV kV doc pm an (.ref c) ct) ps [.int d t]
structure Stp (P:Program) (w:World) (K:Qb) (mg:Str->Option Value) (base:Heap) (G:Gx) (tab:List Fd) (n:Nat):Prop where
 d:∀x i,G.defs.lookup x=some i->∀X:Cx,X.prog=P->X.w=w->X.K=K->X.mg=mg->X.base=base->Dfn G (aD tab n) (n+2) X x i
 l:∀i L,lamX.lookup i=some L->Dfl (aD tab n) (n+2) P w K mg base i L
theorem xY (hG:∀x∈bQ,G.defs.lookup x=none) (hb:∀x∈bQ,mg x=none) (hc:CnD P w K mg G) {n:Nat}(S:Stp P w K mg base G tab n) {x qn:Str}{i:Nat}{a:Addr}{fdt:FuncData}{st:Stmt}{ps:List Str}{fd:Fd}(Fn:FunD K x qn st a fdt)
  (Sc:FnScope (bP (ay st)) ps (ay st)) (hcs:eY G fuel (ay st) (bP (ay st)) (gN fuel (bP (ay st)) (bT st)) (bT st)=some fd.body) (ht:tab[i]?=some fd) (hp:fd.np=ps.length) (hn:fd.ns=(bP (ay st)).length) :
  FnOk P w K mg base fw (n+3) a fdt ps (jr K ps.length (aD tab (n+1) i)):=by
 have gg:∀(cdv:Value) (A:Around) (outer:List Env) (s:Shared) (H:Hp) (E:XK),Room (n+2) (A.deeper (envOfC qn (ay st) s.heap.objs.size a cdv))->XG (aD tab n) G (n+2) (i7 fw P w K mg base (bP (ay st)) qn (ay st) a cdv A outer s H E).nox (ay st) (bP (ay st)):=λcdv A outer s H E hr=>by
  refine⟨rfl,Sc.nd,λy h=>?_,λy h=>?_,λy h=>?_,λy h=>?_,rfl,rfl,hr,λy j h=>S.d y j h _ rfl rfl rfl rfl rfl,λy _ h=>hb y h,hc,S.l⟩
  ·unfold jD at h
   simp only [dZ,beq_iff_eq] at h
   rcases h with (h|h)|h
   ·exact .inl h
   ·exact .inr (.inl h)
   ·exact .inr (.inr h)
  ·simp only [dZ,beq_iff_eq] at h
   exact⟨h,.inl rfl⟩
  ·unfold bt at h
   rw [beq_iff_eq] at h
   exact h
  ·unfold jw at h
   simp only [dZ,beq_iff_eq] at h
   exact h
 refine Fn.ok Sc (λvs H Q E h=>h.1) (λcdv A outer s H vs Q E hr h=>?_)
 obtain⟨hvl,F,ds,r,tb,dom,rds,hcall,hq⟩:=h
 have hlen:=RGs.length rds
 rw [mN ht] at hcall
 unfold i0 at hcall
 split at hcall
 ·rename_i hal
  obtain⟨o,e1,e2⟩:=af hcall
  obtain⟨t,pt,qt⟩:=(pz (call:=aD tab n) (k:=n+2) hG fuel).s _ _ _ _ _ _ (gg cdv A outer s H E hr) hcs
  refine⟨t,pt,qt ⟨H,none,tb⟩ F H F _ _ o _ e1 (tT tb dom rds (by rw [hp,hn,hvl])) (Gr.refl dom) ?_⟩
  cases o with
  | nx Z' =>
   cases e2
   exact fun τ' H' F' _ g' _=>hq .non H' F' g' rfl
  | rt r' =>
   cases e2
   exact λv H' F' g' rr=>hq v H' F' g' rr
  | bk _=>cases e2
  | ct _=>cases e2
 ·cases hcall
theorem xG {call:Nat->List D->Option R}{k:Nat}{X:Cx}{sc:Scope}{N:List Str}(AE:∀(X:Cx) (sc:Scope) (N:List Str) (e:Expr) (c:C),XG call G k X sc N->cE G fuel sc N e=some c->Ok call X e c) (g:XG call G k X sc N):∀{es:List Expr}{cs:List C},uU G fuel sc N es cs->oE call X es cs
 | [],[],_=>trivial
 | _::_,_::_,⟨h,r⟩=>⟨gW h,(AE _ _ _ _ _ g h).he,xG AE g r⟩
theorem qQh {call:Nat->List D->Option R}{k:Nat}{X:Cx}{sc:Scope}{N:List Str}{mt:List Nat}{sL:Stmt}{sC:List S}{f:Str}{p sp:Pos}{as:List Expr}{i j:Nat}{cs:List C}{ks:List Nat}(g:XG call G k X sc N) (AS:∀(X:Cx) (sc:Scope) (N:List Str) (mt:List Nat) (st:List Stmt) (cs:List S),XG call G k X sc N->eY G fuel sc N mt st=some cs->fC call X st cs)
  (he:SndE call X (.Call (.Name f p) as [] sp) (.lamc i cs j ks)) (h:v8 G fuel sc N mt sL sC (.Call (.Name f p) as [] sp) (.lamc i cs j ks)):di call X sL sC:=by
 rcases h with ⟨q,rfl,rfl⟩|⟨x,py,sq,m,keep,rfl,rfl,hx,hsl,h0⟩|⟨q,sq,a,ca,rfl,rfl,ha⟩
 ·exact xA he (λ⟨_,z⟩=>nomatch z)
 ·obtain⟨l1,l2⟩:=jM g hx
  obtain⟨te,pe,qe⟩:=he
  exact xD h0 ⟨_,xw (i:=m) (by rw [g.hN];exact g.nd) (by rw [g.hN];exact iv hsl) l1 pe rfl l2,λGe H F Z τ r Dn h1 h2 h3=>qe Ge H F Z τ r _ h1 h2 h3⟩
 ·exact v9 (yw he (he.test λ_=>rfl)).2 (AS _ _ _ _ _ _ g ha) yv
theorem yK {call:Nat->List D->Option R}{k:Nat}{X:Cx}{sc:Scope}{N:List Str}{mt:List Nat}(hG:∀x∈bQ,G.defs.lookup x=none) (g:XG call G k X sc N) {rest:List Stmt}{rc:List S}:∀{n:Nat}{pre:List Stmt}{pc:List S},eY G n sc N mt pre=some pc->fC call X rest rc->fC call X (pre++rest) (pc++rc)
 | n,[],pc,h,hr=>by
  cases n with
  | zero=>cases h
  | succ n=>cases h;exact hr
 | n,s::pre,pc,h,hr=>by
  cases n with
  | zero=>cases h
  | succ n =>
   obtain⟨x,e1,e2⟩:=af h
   obtain⟨y,e3,e4⟩:=af e2
   cases e4
   rw [bw]
   exact tS ((pz hG n).o _ _ _ _ _ _ g e1) (yK hG g e3 hr)
theorem qNQ (hG:∀x∈bQ,G.defs.lookup x=none) (hb:∀x∈bQ,mg x=none) (hc:CnD P w K mg G) (kb:K.In base) {n:Nat}(S:Stp P w K mg base G tab n) {x:Str}{i:Nat}{a c:Addr}{st:Stmt}{ps:List Str}{fd:Fd}{oc dV kV doc pm ct:Value}{od an:Option Addr}{osl:Array (Option Value)}{j:Nat}{L:LamD}
  (lk:K.lookup a=some ⟨oc,od,.func (PySem.W.fnOf x x (fQ st) (bT st) (ay st) dV kV doc pm an (.ref c) ct),osl⟩) (hcd:PySem.W.codeIn K (.ref c) x=true) (hch:PySem.W.codeHdIn K c L.P=true) (hbm:vP K mg L.P)
  (Sc:FnScope (bP (ay st)) ps (ay st)) (ht:tab[i]?=some fd) (hp:fd.np=ps.length) (hn:fd.ns=(bP (ay st)).length)
  (b1:LamBody G fuel (ay st) (bP (ay st)) (gN fuel (bP (ay st)) (bT st)) (bT st) fd.body L j) (b8:lamX.lookup j=some L) (b9:ScOk L.sc) (b11:x++".<locals>.<lambda>"=L.q) (b12:∀env,defaultsOf L.la env=([],[])) :
  FnOk P w K mg base fw (n+3) a (PySem.W.fnOf x x (fQ st) (bT st) (ay st) dV kV doc pm an (.ref c) ct) ps (jr K ps.length (aD tab (n+1) i)):=by
 have gg:∀(A:Around) (outer:List Env) (s:Shared) (H:Hp) (E:XK),Room (n+2) (A.deeper (envOfC x (ay st) s.heap.objs.size a (.ref c)))->XG (aD tab n) G (n+2) (i7 fw P w K mg base (bP (ay st)) x (ay st) a (.ref c) A outer s H E).nox (ay st) (bP (ay st)):=λA outer s H E hr=>by
  refine⟨rfl,Sc.nd,λy h=>?_,λy h=>?_,λy h=>?_,λy h=>?_,rfl,rfl,hr,λy j h=>S.d y j h _ rfl rfl rfl rfl rfl,λy _ h=>hb y h,hc,S.l⟩
  ·unfold jD at h
   simp only [dZ,beq_iff_eq] at h
   rcases h with (h|h)|h
   ·exact .inl h
   ·exact .inr (.inl h)
   ·exact .inr (.inr h)
  ·simp only [dZ,beq_iff_eq] at h
   exact⟨h,.inl rfl⟩
  ·unfold bt at h
   rw [beq_iff_eq] at h
   exact h
  ·unfold jw at h
   simp only [dZ,beq_iff_eq] at h
   exact h
 refine wy lk hcd Sc (λvs H Q E h=>h.1) (λA outer s H vs Q E hr h=>?_)
 obtain⟨hvl,F,ds,r,tb,dom,rds,hcall,hq⟩:=h
 rw [mN ht] at hcall
 unfold i0 at hcall
 split at hcall
 ·rename_i hal
  obtain⟨o,e3,e4⟩:=af hcall
  have xg:=gg A outer s H E hr
  have AE:=(jK (call:=aD tab n) (k:=n+2) hG fuel).e
  obtain⟨bm,bo,m1,m2,m3,m4,m5,m6,m7,m8⟩:=hbm
  obtain⟨pre,post,pre',post',sL,sC,g,p1,p2,es,cs,ig,ks,q1,q2,q3,q4,q5,q6,q7,q8,q9,q10⟩:=b1.ex
  have AS:=(pz (call:=aD tab n) (k:=n+2) hG fuel).s
  have he:=qJY (p:=p1) (pos:=p2) xg q6 q7 q8 (xG AE xg q9) b8 b9 q10 ⟨by rw [<-b11];rfl,b12 _,⟨c,rfl,PySem.W.codeHd_of_K kb hch⟩,⟨bm,bo,m1,m2,m3,m4,kb _ _ m5,m6,m7,m8⟩,λ_=>rfl⟩
  have h1:=qQh (sp:=p2) xg AS he q5
  obtain⟨t,pt,qt⟩:=yK hG xg q3 (tS h1 (AS _ _ _ _ _ _ xg q4))
  rw [<-q1] at pt
  rw [q2] at e3
  refine⟨t,pt.nox,qt ⟨H,none,tb⟩ F H F _ _ o _ e3 (tT tb dom rds (by rw [hp,hn,hvl])) (Gr.refl dom) ?_⟩
  cases o with
  | nx Z' =>
   cases e4
   exact fun τ' H' F' _ g' _=>hq .non H' F' g' rfl
  | rt r' =>
   cases e4
   exact λv H' F' g' rr=>hq v H' F' g' rr
  | bk _=>cases e4
  | ct _=>cases e4
 ·cases hcall
theorem stp (hG:∀x∈bQ,G.defs.lookup x=none) (hb:∀x∈bQ,mg x=none) (hc:CnD P w K mg G) (kb:K.In base) (hd:∀x i,G.defs.lookup x=some i->DefIn K mg G tab fuel x i∨LdIn K mg G tab fuel x i) (qk:∀j L,lamX.lookup j=some L->LamIn G tab fuel j L) (n:Nat):Stp P w K mg base G tab n:=by
 induction n with
 | zero =>
  refine⟨λx i h X e1 e2 e3 e4 e5=>?_,λi L h=>qKV (λ_=>rfl) (qk i L h)⟩
  ·subst e1 e2 e3 e4 e5
   rcases hd x i h with h|h
   ·obtain⟨a2,fdt2,st2,ps2,fd2,q1,q2,q3,q4,q5,q6,q7,q8,q9⟩:=h.ex
    exact⟨a2,fdt2,ps2,q1,q2.kp,q3,xZ,λds r hr=>(nomatch hr),q9⟩
   ·obtain⟨a,c,st,ps,fd,oc,dV,kV,doc,pm,ct,od,an,osl,j,L,q1,q2,q3,q4,q5,q6,q7,q8,q9,q10,q11,b1,b8,b9,b11,b12,b13⟩:=h.ex
    exact⟨a,_,ps,q1,q2,q4,xZ,λds r hr=>(nomatch hr),b13⟩
 | succ n S =>
  refine⟨λx i h X e1 e2 e3 e4 e5=>?_,λi L h=>qKC hG hb hc S.d S.l (qk i L h)⟩
  ·subst e1 e2 e3 e4 e5
   rcases hd x i h with h|h
   ·obtain⟨a2,fdt2,st2,ps2,fd2,q1,q2,q3,q4,q5,q6,q7,q8,q9⟩:=h.ex
    exact⟨a2,fdt2,ps2,q1,q2.kp,q3,xY hG hb hc S q2 q4 q5 q6 q7 q8,λds r hr=>(tL q6 hr).trans q7,q9⟩
   ·obtain⟨a,c,st,ps,fd,oc,dV,kV,doc,pm,ct,od,an,osl,j,L,q1,q2,q3,q4,q5,q6,q7,q8,q9,q10,q11,b1,b8,b9,b11,b12,b13⟩:=h.ex
    exact⟨a,_,ps,q1,q2,q4,qNQ hG hb hc kb S q3 q5 q6 q7 q8 q9 q10 q11 b1 b8 b9 b11 b12,λds r hr=>(tL q9 hr).trans q10,b13⟩
theorem qQg {n i:Nat}(h:∀ns:List Int,ns.length<=63->(∀i∈ns,2 * i.natAbs<iZ)->aD tab n i [.lst (ns.map .int)]=some (false,.bl true)) (H:Hp) (tb:TB H) (a:Addr) (ns:List Int) (hl:ns.length<=63) (hw:∀i∈ns,2 * i.natAbs<iZ) (hS:SqL K H a (ns.map V.int)) (E:XK):jr K 1 (aD tab n i) [.ref a] H (λv H'=>v=.bl true/\TB H') E:=by
 rcases hS with hS|hS
 ·refine⟨rfl,λb=>b=a,[.lst (ns.map .int)],(false,.bl true),tb,λb e z=>?_,⟨.ref a,[],rfl,.inl ⟨a,ns.map V.int,rfl,.inl ⟨rfl,hS⟩,RDs.of_ints ns⟩,rfl⟩,h ns hl hw,λv H' F' g rr=>⟨rr,tb.same g.same⟩⟩
  subst z
  rcases hS with q|⟨o,q⟩<;>(rw [e] at q;cases q)
 ·exact⟨rfl,λ_=>False,[.lst (ns.map .int)],(false,.bl true),tb,λ_ _ z=>z,⟨.ref a,[],rfl,.inl ⟨a,ns.map V.int,rfl,.inr hS,RDs.of_ints ns⟩,rfl⟩,h ns hl hw,λv H' F' g rr=>⟨rr,tb.same g.same⟩⟩
end
def kL (b:Addr):Option HO:=(tbs.find? λt=>t.1 == b).map λt=>.tab t.2.1 t.2.2
theorem Ah {b:Addr}{u:HO}(h:kL b=some u):∃t∈tbs,t.1=b/\u=.tab t.2.1 t.2.2:=by
 obtain⟨t,e1,e2⟩:=yad.mp h
 exact⟨t,List.mem_of_find?_eq_some e1,by simpa using List.find?_some e1,e2.symm⟩
theorem qIb {P:Program}{w:World}{K:Qb}{mg mb:Str->Option Value}{k:Nat}{fa a:Addr}{fd:FuncData}{x:Str}{sp:Sp}{s₁:Shared}{vs:List Value}{ns:List Int}
  (KX:K.In s₁.heap) (hns:s₁.heap.Ns mainGlobals mg) (hb:s₁.heap.Ns builtinsNs mb) (hbb:∀x:Str,x≠"__name__"->mb x=Qo x) (hlim:s₁.heap.NoLimit) (hg:s₁.gens=#[])
  (ha:s₁.heap.get? a=some { cls:=.type "list",data:=.seq vs.toArray }) (hi:IntsAre vs ns) (hl:ns.length<=sizeLine) (hr:Room k callerA)
  (htb:TB kL) (hto:∀t∈tbs,s₁.heap.get? t.1=some (PySem.W.tabObj #[])/\isCodeTable s₁.heap t.1/\K.lookup t.1=none)
  (F:∀base:Heap,K.In base->base.Ns mainGlobals mg->FnOk P w K mg base fw k fa fd [x] sp) (hbind:∀(s:Shared) (u:Value),BindsTo s fd ⟨[u],[]⟩ [(x,u)])
  (hsp:∀H:Hp,TB H->SqL K H a (ns.map V.int)->sp [.ref a] H (λv H'=>v=.bl true/\TB H') λ_ _ _=>False) :
  codeAny (model P w) callerA (.call (.ref fa) ⟨[.ref a],[]⟩) (λr s'=>r=.ok (.ret (.bool true))/\OldK s₁.heap s'.heap/\s'.os=s₁.os/\AllBare s'.gens) s₁:=by
 have rv:=uC hi
 have nt:kL a=none:=by
  cases q:kL a with
  | none=>rfl
  | some u =>
   obtain⟨t,hm,rfl,_⟩:=Ah q
   rw [(hto t hm).1] at ha
   cases ha
 let o0:Obj:={ cls:=.type "list",data:=.seq vs.toArray }
 let H:Hp:=λb=>if b=a/\K.lookup a=none then some (.frz o0 (.lst (ns.map V.int))) else kL b
 have cs:∀b u,H b=some u->(b=a/\K.lookup a=none/\u=.frz o0 (.lst (ns.map V.int)))∨∃t∈tbs,t.1=b/\u=.tab t.2.1 t.2.2:=λb u e=>by
  by_cases z:b=a/\K.lookup a=none
  ·have e':=(Ql z).symm.trans e
   cases e'
   exact .inl ⟨z.1,z.2,rfl⟩
  ·exact .inr (Ah ((Qm z).symm.trans e))
 have tb:TB H:=λt hm=>by
  have:¬(t.1=a/\K.lookup a=none):=λz=>by have:=htb t hm;rw [z.1,nt] at this;cases this
  exact (Qm this).trans (htb t hm)
 have hok:HOk P w H s₁.heap:=λb u e=>by
  rcases cs b u e with ⟨rfl,_,rfl⟩|⟨t,hm,rfl,rfl⟩
  ·exact⟨ha,by rw [aC];exact hl,vs,_,rv,ha⟩
  ·exact⟨#[],(hto t hm).1,trivial,.inl rfl⟩
 have nsK:∀{b:Addr} {m:Str->Option Value},s₁.heap.Ns b m->(iY s₁.heap H).Ns b m:=λ{b m} ⟨o,es,ep,e,d,r⟩=>⟨o,es,ep,zm e (by
  cases q:H b with
  | none=>rfl
  | some u =>
   rcases cs b u q with ⟨rfl,_,_⟩|⟨t,hm,rfl,_⟩
   ·rw [ha] at e;cases e;cases d
   ·rw [(hto t hm).1] at e;cases e;cases d),d,r⟩
 have hKb:K.In (iY s₁.heap H):=λb o e=>zm (KX b o e) (by
  cases q:H b with
  | none=>rfl
  | some u =>
   rcases cs b u q with ⟨rfl,z,_⟩|⟨t,hm,rfl,_⟩
   ·rw [z] at e;cases e
   ·rw [(hto t hm).2.2] at e;cases e)
 have hS:SqL K H a (ns.map V.int):=by
  cases hk:K.lookup a with
  | none=>exact .inl (.inr ⟨o0,Ql ⟨rfl,hk⟩⟩)
  | some o =>
   have e:=KX a o hk
   rw [ha] at e
   cases e
   exact .inr ⟨_,vs.toArray,_,hk,rfl,rfl,rfl,by rw [aH,hi.length];exact hl,by simpa using rv⟩
 have hM:Mod K mg (iY s₁.heap H):=⟨hKb,nsK hns,⟨mb,nsK hb,hbb⟩,let ⟨mc,h1,h2⟩:=hlim;⟨mc,nsK h1,h2⟩⟩
 have e0:Env0 P w K mg (iY s₁.heap H) callerA [] s₁ H:=⟨rfl,hM,λb o e=>qNG e,Nat.le_of_eq (qIm _ _),trivial,λb hb=>Qn (show b∈([]:List Addr) from hb) (by simp),hok,.of_eq hg⟩
 refine codeAny_mono ((F _ hKb (nsK hns)).run callerA [] s₁ H ⟨[.ref a],[]⟩ [.ref a] [.ref a] _ _ hr e0 (hbind s₁ (.ref a)) (.cons rfl .nil) (hsp H tb hS)) λr s' h=>?_
 cases r with
 | error e=>exact False.elim h
 | ok fl =>
  cases fl with
  | next=>exact False.elim h
  | brk=>exact False.elim h
  | cont=>exact False.elim h
  | ret u =>
   obtain⟨v,H',os,bare,un,hok',r',rfl,tb'⟩:=h
   obtain rfl:u=Value.bool true:=r'
   have old:∀b o,s₁.heap.get? b=some o->asItWas s₁.heap s'.heap b o/\∃o',s'.heap.get? b=some o':=λb o e=>by
    cases q:H b with
    | none =>
     have:=un.keep b o e q (by intro z;exact Qn (show b∈([]:List Addr) from z) (by simp)) (by simp)
     exact⟨.inl this,_,this⟩
    | some u =>
     rcases cs b u q with ⟨rfl,_,rfl⟩|⟨t,hm,rfl,rfl⟩
     ·have z2:=un.frzs b _ _ q
      obtain⟨e1,_⟩:=hok b _ q
      obtain⟨e2,_⟩:=hok' b _ z2
      rw [e] at e1
      cases e1
      exact⟨.inl e2,_,e2⟩
     ·obtain⟨e1,e2,_⟩:=hto t hm
      rw [e] at e1
      cases e1
      obtain⟨ps,e3,_⟩:=hok' t.1 _ (tb' t hm)
      exact⟨.inr (.inl ⟨e2,rfl,#[],ps,rfl,by rw [e3];simp⟩),_,e3⟩
   exact⟨rfl,⟨λb o e=>(old b o e).1,λb o e=>(old b o e).2⟩,os,bare⟩
theorem xb:∀(ns:List Int) (i:Int),i∈ns->PySem.W.WData.weight (.int i)+1<=PySem.W.WData.weightAll (ns.map PySem.W.WData.int)
 | [],i,h=>nomatch h
 | n::ns,i,h=>by
  rw [cT,PySem.W.WData.weightAll]
  rcases yag.mp h with rfl|h
  ·omega
  ·have:=xb ns i h
   omega
theorem qKB {ns:List Int}(h:PySem.W.WData.layableAll [.list (ns.map PySem.W.WData.int)]=true) (i:Int) (hi:i∈ns):2 * i.natAbs<iZ:=by
 unfold PySem.W.WData.layableAll at h
 rw [fy,aI] at h
 have h1:=h.1
 unfold PySem.W.WData.layable at h1
 rw [aI] at h1
 have h2:PySem.W.WData.weight (.list (ns.map PySem.W.WData.int))<=2^20:=Qp h1.2
 rw [PySem.W.WData.weight] at h2
 have h3:=xb ns i hi
 rw [PySem.W.WData.weight] at h3
 by_cases hz:i=0
 ·subst hz
  exact Nat.pow_pos (by decide)
 ·rw [Qm (by simpa using hz)] at h3
  have h4:i.natAbs<2^(i.natAbs.log2+1):=Nat.lt_log2_self
  have h5:2 * i.natAbs<2^(i.natAbs.log2+2):=by rw [Nat.pow_succ];omega
  exact bG h5 (nS (by decide) (by omega))
theorem dw_walk {l:PySem.W.OpenLaw}{q:Program}{loose:List Str}{XP:(Str->Option Value)->Heap->Prop}{YP:World->Heap->Prop}{d:DefRec}{K:Params->Qb}{tab:List Fd}{n i:Nat}(hlaw:∀ns:List Int,ns.length<=63->(∀i∈ns,2 * i.natAbs<iZ)->aD tab n i [.lst (ns.map .int)]=some (false,.bl true))
  (hn:l.most=some 63) (hdf:d.params.defaults=[]) (hr:Room (n+2) callerA) (hY:∀(w:World) (h:Heap),YP w h->(K w.params).In h) (htb:TB kL) (hT:∀(w:World) (h:Heap),YP w h->∀t∈tbs,h.get? t.1=some (PySem.W.tabObj #[])) (hC:∀(w:World),∀t∈tbs,(∃c,PySem.W.codeHdIn (K w.params) c t.1=true)/\(K w.params).lookup t.1=none)
  (F:∀(w:World) (mg:Str->Option Value) (fa:Addr) (h:Heap),(K w.params).In h->h.Ns mainGlobals mg->mg d.name=some (.ref fa) ->
   ∃fd:FuncData,(∀(s:Shared) (u:Value),BindsTo s fd ⟨[u],[]⟩ [("script",u)])/\∀base:Heap,(K w.params).In base->base.Ns mainGlobals mg->FnOk l.prog w (K w.params) mg base fw (n+2) fa fd ["script"] (jr (K w.params) 1 (aD tab n i))) :
  PySem.W.WalkO q loose XP YP l.row.toRowW d [] (λf vs=>PySem.call f vs):=by
 intro w t₀ t₁ mg mb g y fa o pm cd doc v₁ v₂ ho hd hc e1 e2 e3 args vals as e4 lay e5 e6 e7
 obtain rfl:v₁=.none:=PySem.W.Dflts.none e1 hdf
 obtain rfl:v₂=.none:=PySem.W.Dflts.noKw e1
 obtain⟨a,vs,ns,rfl,rfl,s1,s2,s3⟩:=Att.script_of hn e4 e6
 have kx:=hY w _ y
 obtain⟨fd,hb,hF⟩:=F w mg fa _ kx g.T.g e2
 refine PySem.W.enter_call (codeAny_mono (qIb kx g.T.g g.T.b g.T.builtins g.T.nolimit e3 s1 s2 (aM s3 (by decide)) hr htb (λt hm=>⟨hT w _ y t hm,?_,(hC w t hm).2⟩) hF hb λH tb hS=>qQg hlaw H tb a ns s3 (qKB lay) hS _) λr s' z=>?_)
 ·obtain⟨c,hc⟩:=(hC w t hm).1
  obtain⟨o,vs,_,_,_,_,_,_,_,q1,q2,q3,q4,_⟩:=PySem.W.codeHd_of_K kx hc
  exact⟨c,o,vs,q1,q2,q3,q4⟩
 obtain⟨rfl,z2,z3,z4⟩:=z
 exact⟨.inl ⟨.bool true,.bool true,[],rfl,λ_=>rfl,.bool true,Att.post_true l _,λ_=>⟨List.Pairwise.nil,λ_ hm=>(nomatch hm)⟩⟩,z2,z3,z4⟩
end Dw
set_option exponentiation.threshold 6000
namespace Dw.T
open Dw
noncomputable abbrev tx (s:String):D:=.str (Qa s)
noncomputable abbrev kI (n:Int):C:=.k (.int n)
noncomputable abbrev V0:C:=.v 0
noncomputable abbrev V1:C:=.v 1
noncomputable abbrev V2:C:=.v 2
noncomputable abbrev V3:C:=.v 3
noncomputable abbrev V4:C:=.v 4
noncomputable abbrev V5:C:=.v 5
noncomputable abbrev V6:C:=.v 6
noncomputable abbrev V7:C:=.v 7
noncomputable abbrev V8:C:=.v 8
noncomputable abbrev V9:C:=.v 9
noncomputable abbrev kh:C:=.v 10
noncomputable abbrev lM:C:=.v 11
noncomputable abbrev Bz:C:=.v 12
noncomputable abbrev By:C:=.v 13
noncomputable abbrev Bx:C:=.v 14
abbrev AB:List S:=[.ext 1 (.call 12 [V2])]
abbrev AG:List S:=[.ext 1 (.compS (.bin .add V1 V0) 1 [3] (.one 0) V2)]
abbrev Av:List S:=[.pop (.one 5) 3,.set 6 false (.cv 2 [(.call 10 [(.ix V5 (kI 1))]),(.call 10 [(.ix V5 (kI 3))])]),.app 4 (.tup [V5,V6]),.ite (.cmp .eq V6 (.k (tx "open"))) [.ext 3 (.revL (.call 16 [V5]))] []]
abbrev AD:List S:=[.ext 4 (.compF (.tup [(.call 1 [V1,(.ix V0 (kI 1))]),V2,(.ix V0 (kI 0))]) (.cmp .ne (.ix V0 (kI 0)) V2) 1 [6,5] (.one 0) V3)]
abbrev AF:List S:=[.set 5 false (.call 4 [V2]),.ext 4 (.compF (.tup [V1,V0]) (.cmp .ne V0 V1) 1 [5] (.one 0) V3)]
abbrev AI:List S:=[.ite (.cmp .eq V5 (.k (tx "whole"))) [.ext 3 (.call 25 [(.ix V4 (kI 1)),(.ix V4 (kI 3))])] [],.ite (.call 19 [V4,V5]) [.set 6 false (.call 21 [(.ix V4 (kI 1)),(.ix V4 (kI 3)),V2]),.ext 3 (.compF (.tup [(.ix V0 (kI 1)),(.ix V0 (kI 2))]) (.cmp .le (.ix V0 (kI 0)) V1) 1 [1] (.one 0) V6)] []]
abbrev Az:List S:=[.ite (.not (.call 29 [(.ix V0 V2),(.ix V1 V2)])) [.ret (.k (.bl false))] []]
abbrev AA:List S:=[.set 10 false (.bin .sub (.call 30 [V5,V9,(.bin .add (.bin .mul (kI 2) V6) (kI 1))]) V6),.set 11 false (.call 30 [V5,(.bin .add V9 (kI 7)),(.ix (.lst [(kI 1),(kI 9),(.bin .add V6 (kI 1))]) (.bin .mod (.bin .fdiv V3 (kI 9)) (kI 3)))]),.set 12 false (.bin .sub (.call 30 [V5,(.bin .add V9 (kI 14)),(.bin .add (.bin .mul (kI 2) V7) (kI 1))]) V7),.app 8 (.tup [kh,(.bi .min [V6,(.bin .add kh lM)]),Bz,Bz])]
abbrev Aw:List S:=[.set 8 false (.bin .bor V8 (.ix V4 (kI 2))),.set 9 false (.bin .band V9 (.ix V4 (kI 2)))]
abbrev Al:List S:=[.set 5 false (.compS (.ix (.ix (.ix V0 (kI 1)) V1) (kI 0)) 1 [3] (.one 0) V0),.set 6 false (.compS (.ix (.ix (.ix V0 (kI 1)) V1) (kI 1)) 1 [3] (.one 0) V0),.set 7 false (.compS (.ix (.ix (.ix V0 (kI 1)) V1) (kI 2)) 1 [3] (.one 0) V0),.app 1 (.tup [(.bi .min [V5]),(.bi .max [V6]),(.bi .min [V7]),(.bi .max [V7])]),.app 2 (.tup [(.bi .max [V5]),(.bi .min [V6]),(.bi .max [V7]),(.bi .min [V7])])]
abbrev uw:List S:=[.set 8 false (.bin .add V8 (.ix V9 (kI 1)))]
abbrev ux:List S:=[.set 8 false (.lst []),.forS (.one 9) (.sl V3 (some V5) (some V6)) uw,.app 7 (.tup [(.tup [(.k (tx "fork")),(.call 32 [V8]),(.bi .tuple [(.compS (.ix V0 (kI 0)) 1 [] (.one 0) (.sl V3 (some V5) (some V6)))])]),V8])]
abbrev Am:List S:=[.set 7 true (.lst []),.set 4 false (.call 33 [(.bi .len [V3]),V1,(.bin .fdiv V2 (kI 7))]),.forZ (.two 5 6) (.sl V4 none (some (.neg (kI 1)))) (.sl V4 (some (kI 1)) none) ux,.frz [7],.set 3 true V7]
abbrev uy:List S:=[.app 3 (.tup [(.tup [(.k (tx "leaf")),(.call 32 [(.sl V0 (some V5) (some V6))]),(.bi .tuple [(.sl V0 (some V5) (some V6))])]),(.sl V0 (some V5) (some V6))])]
abbrev zS:List S:=[.set 5 false (.bi .max [(kI 0),(.bin .sub (.ix V3 (kI 0)) (.ix V4 (kI 1))),(.bin .sub (.ix V4 (kI 0)) (.ix V3 (kI 1)))]),.set 2 false (.bin .add V2 (.bin .mul V5 V5))]
abbrev zQ:List S:=[.ite (.and (.cmp .ne (.ix V6 (kI 0)) (.ix (.ix V1 V8) (kI 0))) (.cmp .le (.call 37 [V7,(.ix V4 V8)]) V2)) [.app 5 (.tup [(.ix V6 (kI 0)),(.ix (.ix V1 V8) (kI 0))])] []]
abbrev zR:List S:=[.set 7 false (.call 36 [(.ix V6 (kI 1)),V3]),.forR (.one 8) [(.bi .len [V1])] zQ]
def f_side_gap:Fd:=⟨2,2,[.ret (.bi .max [(kI 0),(.bin .sub (.ix V0 (kI 0)) (.ix V1 (kI 1))),(.bin .sub (.ix V1 (kI 0)) (.ix V0 (kI 1)))])]⟩
def f_box_gap:Fd:=⟨2,3,[.set 2 false (.compZ (.call 0 [V0,V1]) 2 [] (.two 0 1) V0 V1),.ret (.bi .sum [(.compS (.bin .mul V0 V0) 1 [] (.one 0) V2)])]⟩
def f_side_at:Fd:=⟨2,2,[.ret (.tup [(.bin .add (.ix V0 (kI 0)) (.bin .mul (.ix V0 (kI 2)) V1)),(.bin .add (.ix V0 (kI 1)) (.bin .mul (.ix V0 (kI 3)) V1))])]⟩
def f_frame_at:Fd:=⟨2,2,[.ret (.bi .tuple [(.compS (.call 2 [V0,V1]) 1 [1] (.one 0) V0)])]⟩
def uE:Fd:=⟨1,1,[.ret (.ix V0 (kI 0))]⟩
def uD:Fd:=⟨1,1,[.ret (.ix V0 (kI 1))]⟩
def uk:Fd:=⟨2,2,[.ret (.call 3 [(.call 5 [V0]),V1])]⟩
def uG:Fd:=⟨1,1,[.ret (.ix V0 (kI 0))]⟩
def uH:Fd:=⟨1,1,[.ret (.ix V0 (kI 1))]⟩
def f_is_leaf:Fd:=⟨1,1,[.ret (.cmp .eq (.ix V0 (kI 0)) (.k (tx "leaf")))]⟩
def f_page_told:Fd:=⟨1,1,[.ret (.ix V0 (kI 1))]⟩
def f_page_parts:Fd:=⟨1,1,[.ret (.ix V0 (kI 2))]⟩
def f_things_in:Fd:=⟨1,3,[.ite (.call 9 [V0]) [.ret (.call 11 [V0])] [],.set 1 true (.lst []),.forS (.one 2) (.call 11 [V0]) AB,.ret (.bi .tuple [V1])]⟩
def um:Fd:=⟨2,2,[.ret (.call 3 [(.call 7 [V0]),V1])]⟩
def uo:Fd:=⟨2,2,[.ret (.call 3 [(.call 8 [V0]),V1])]⟩
def f_parts_or_itself:Fd:=⟨2,2,[.ite (.call 9 [V1]) [.ret (.lst [(.tup [V0,V1])])] [],.ret (.compE (.tup [(.bin .add V2 (.tup [V0])),V1]) 2 [0] (.two 0 1) (.call 11 [V1]))]⟩
def f_places_behind:Fd:=⟨1,4,[.ite (.and (.call 9 [(.ix V0 (kI 1))]) (.call 9 [(.ix V0 (kI 3))])) [.ret (.lst [])] [],.set 1 true (.lst []),.set 2 false (.call 15 [(.ix V0 (kI 2)),(.ix V0 (kI 3))]),.forS (.one 3) (.call 15 [(.ix V0 (kI 0)),(.ix V0 (kI 1))]) AG,.ret V1]⟩
def f_join_cut:Fd:=⟨3,7,[.set 3 true (.lst [(.tup [(.tup []),V0,(.tup []),V1])]),.set 4 true (.lst []),.whl (.cmp .gt (.bi .len [V3]) (kI 0)) Av,.ret V4]⟩
def f_join_paper:Fd:=⟨1,1,[.ret (.bi .tuple [(.compS (.tup [(.ix V0 (kI 0)),(.ix V0 (kI 2)),V1]) 2 [] (.two 0 1) V0)])]⟩
def f_is_open_leaves:Fd:=⟨2,2,[.ret (.and (.cmp .eq V1 (.k (tx "open"))) (.and (.call 9 [(.ix V0 (kI 1))]) (.call 9 [(.ix V0 (kI 3))])))]⟩
def f_boxes_of:Fd:=⟨2,2,[.ret (.compS (.tup [(.call 4 [V0]),(.call 6 [V0,V1])]) 1 [1] (.one 0) V0)]⟩
def f_gaps_of_leaves:Fd:=⟨3,7,[.set 3 false (.call 20 [(.call 11 [V1]),V2]),.set 4 true (.lst []),.forS (.two 5 6) (.call 20 [(.call 11 [V0]),V2]) AD,.ret V4]⟩
def f_is_apart:Fd:=⟨4,4,[.ite (.or (.isC false V0 .non) (.isC false V1 .non)) [.ret (.k (.bl true))] [],.ret (.cmp .gt (.call 1 [(.call 13 [V0,V3]),(.call 13 [V1,V3])]) V2)]⟩
def f_is_whole_near:Fd:=⟨4,4,[.ret (.cmp .le (.call 1 [(.call 14 [V0,V3]),(.call 14 [V1,V3])]) V2)]⟩
def f_pairs_word:Fd:=⟨4,4,[.ite (.call 22 [V0,V1,V2,V3]) [.ret (.k (tx "apart"))] [],.ret (.ifx (.call 23 [V0,V1,V2,V3]) (.k (tx "whole")) (.k (tx "open")))]⟩
def f_pairs_of_whole:Fd:=⟨2,6,[.set 3 false (.compS (.call 4 [V0]) 1 [] (.one 0) (.call 12 [V1])),.set 4 true (.lst []),.forS (.one 2) (.call 12 [V0]) AF,.ret V4]⟩
def f_pairs_of_rows:Fd:=⟨3,7,[.set 3 true (.lst []),.forS (.two 4 5) V0 AI,.ret (.bi .tuple [(.bi .sorted [V3])])]⟩
def f_near_pairs:Fd:=⟨4,5,[.set 4 false (.lamc 17 [V0,V1] 42 [3,2]),.ret (.tup [(.call 26 [V4,V2,V3]),(.call 18 [V4])])]⟩
def f_law_cell_at:Fd:=⟨2,2,[.ite (.cmp .lt V1 (.bi .len [V0])) [.ret (.ix V0 V1)] [],.ret (kI 0)]⟩
def f_law_alike:Fd:=⟨2,3,[.ite (.isi V1 .tuple) [.ite (.or (.not (.isi V0 .tuple)) (.cmp .ne (.bi .len [V0]) (.bi .len [V1]))) [.ret (.k (.bl false))] [],.forR (.one 2) [(.bi .len [V1])] Az,.ret (.k (.bl true))] [],.ite (.isC false V1 .non) [.ret (.isC false V0 .non)] [],.ite (.isi V1 .str) [.ret (.and (.isi V0 .str) (.cmp .eq V0 V1))] [],.ret (.and (.isi V0 .int) (.and (.not (.isi V0 .bool)) (.cmp .eq V0 V1)))]⟩
def f_law_draw:Fd:=⟨3,3,[.ret (.bin .mod (.bin .fdiv (.bin .mul (.bin .mul (.bin .add (.bin .add V0 (kI 3)) V1) (.bin .add (.bin .add V0 (.bin .mul (kI 5) V1)) (kI 11))) (.bin .add (.bin .pow (kI 10) (kI 33)) (kI 7))) (kI 13)) V2)]⟩
def f_law_thing:Fd:=⟨5,15,[.set 5 false (.bin .add (.bin .mod V0 (.bin .pow (kI 10) (kI 40))) (.bin .mul (.bin .mul (kI 7919) V1) V1)),.set 6 false (.ix (.lst [(kI 12),(kI 90),(.bin .sub (.bin .pow (kI 10) (kI 30)) (kI 1))]) (.bin .mod V3 (kI 3))),.set 7 false (.ix (.lst [(kI 0),(kI 4),(.bin .pow (kI 10) (kI 15))]) (.bin .mod (.bin .fdiv V3 (kI 3)) (kI 3))),.set 8 true (.lst []),.forR (.one 9) [V2] AA,.set 13 false (.bin .add (.bin .mul V4 (kI 1000)) V1),.ite (.cmp .eq (.bin .mod V3 (kI 2)) (kI 1)) [.set 13 false (.bin .add (.bin .mul V1 (.bin .pow (kI 10) (kI 14))) V4)] [],.set 14 false (.bin .sub (.call 30 [V5,(kI 28),(.bin .add (.bin .mul (kI 2) V6) (kI 1))]) V6),.ret (.tup [By,(.bi .tuple [V8]),(.call 30 [V5,(kI 35),(.ix (.lst [(kI 4),(kI 65536)]) (.bin .mod (.bin .fdiv V3 (kI 2)) (kI 2)))]),Bx])]⟩
def f_law_told:Fd:=⟨1,11,[.ite (.cmp .eq (.bi .len [V0]) (kI 0)) [.ret (.k .non)] [],.set 1 true (.lst []),.set 2 true (.lst []),.forR (.one 3) [(.bi .len [(.ix (.ix V0 (kI 0)) (kI 1))])] Al,.set 8 false (kI 0),.set 9 false (kI 65535),.forS (.one 4) V0 Aw,.set 10 false (.compS (.ix V0 (kI 3)) 1 [] (.one 0) V0),.ret (.tup [(.bi .tuple [V1]),(.bi .tuple [V2]),V8,V9,(.bi .len [V0]),(.bi .min [kh]),(.bi .max [kh]),(.bi .sum [kh])])]⟩
def f_law_cuts:Fd:=⟨3,6,[.set 3 false (.bi .max [(kI 1),(.bin .fdiv (.bin .sub (.bin .add V0 V1) (kI 1)) V1)]),.set 4 false (.bi .max [V3,(.bin .fdiv V0 (.bin .fdiv V1 (kI 2)))]),.set 5 false (.bin .add V3 (.bin .mod V2 (.bin .add (.bin .sub V4 V3) (kI 1)))),.ret (.compR (.bin .fdiv (.bin .mul V2 V0) V1) 1 [5,0] (.one 0) [(.bin .add V5 (kI 1))])]⟩
def f_law_tree:Fd:=⟨3,10,[.set 3 true (.lst []),.set 4 false (.call 33 [(.bi .len [V0]),V1,V2]),.forZ (.two 5 6) (.sl V4 none (some (.neg (kI 1)))) (.sl V4 (some (kI 1)) none) uy,.whl (.cmp .gt (.bi .len [V3]) (kI 1)) Am,.ret (.ix (.ix V3 (kI 0)) (kI 0))]⟩
def f_law_two_rows:Fd:=⟨3,9,[.set 3 false (.sl V0 (some (kI 6)) (some (kI 66))),.set 4 false (.bin .mod (.bin .fdiv (.call 28 [V0,(kI 2)]) (kI 12)) (.bin .pow (kI 10) (kI 14))),.set 5 false (.lst [V4,V4]),.ite (.cmp .eq (.bin .mod (.bin .fdiv (.call 28 [V0,(kI 2)]) (kI 4)) (kI 3)) (kI 1)) [.set 5 false (.lst [V4,(.bin .mod (.bin .add (.bin .add V4 (kI 1)) (.bin .mod (.call 28 [V0,(kI 4)]) (kI 1000))) (.bin .pow (kI 10) (kI 14)))])] [],.set 6 false (.bin .fdiv (.bi .len [V3]) (kI 2)),.ite (.cmp .eq (.bin .mod (.call 28 [V0,(kI 4)]) (kI 4)) (kI 1)) [.set 6 false (.bin .mod (.bin .fdiv (.call 28 [V0,(kI 4)]) (kI 4)) (.bin .add (.bi .len [V3]) (kI 1)))] [],.set 7 false (.compR (.call 31 [(.ix V2 V0),V0,V3,V4,(.ix V1 (kI 0))]) 1 [5,3,1,2] (.one 0) [V6]),.set 8 false (.compR (.call 31 [(.ix V2 (.bin .add V3 V0)),V0,V4,V5,(.ix V1 (kI 1))]) 1 [5,3,6,1,2] (.one 0) [(.bin .sub (.bi .len [V3]) V6)]),.ite (.cmp .eq (.bin .mod (.bin .fdiv (.call 28 [V0,(kI 2)]) (kI 4)) (kI 3)) (kI 2)) [.set 8 false V7] [],.ret (.lst [V7,V8])]⟩
def f_law_frame_at:Fd:=⟨2,2,[.ret (.compS (.tup [(.bin .add (.ix V0 (kI 0)) (.bin .mul (.ix V0 (kI 2)) V1)),(.bin .add (.ix V0 (kI 1)) (.bin .mul (.ix V0 (kI 3)) V1))]) 1 [1] (.one 0) V0)]⟩
def f_law_gap:Fd:=⟨2,6,[.set 2 false (kI 0),.forZ (.two 3 4) V0 V1 zS,.ret V2]⟩
def f_law_beat:Fd:=⟨1,1,[.ite (.cmp .eq (.bin .mod V0 (kI 3)) (kI 0)) [.ret (kI 0)] [],.ite (.cmp .eq (.bin .mod V0 (kI 3)) (kI 1)) [.ret (.bin .mod (.bin .fdiv V0 (kI 3)) (kI 20))] [],.ret (.bin .mod (.bin .fdiv V0 (kI 3)) (.bin .add (.bin .pow (kI 10) (kI 15)) (kI 1)))]⟩
def f_law_far:Fd:=⟨4,8,[.set 4 false (.call 28 [V0,(kI 5)]),.ite (.cmp .eq (.bin .mod V4 (kI 4)) (kI 0)) [.ret (.bin .mod (.bin .fdiv V4 (kI 4)) (kI 300))] [],.ite (.or (.cmp .eq (.bin .mod V4 (kI 4)) (kI 1)) (.or (.cmp .eq (.bi .len [V1]) (kI 0)) (.cmp .eq (.bi .len [V2]) (kI 0)))) [.ret (.bin .mod (.bin .fdiv V4 (kI 4)) (.bin .add (.bin .pow (kI 10) (kI 62)) (kI 1)))] [],.set 5 false (.ix V1 (.bin .mod (.bin .fdiv V4 (kI 8)) (.bi .len [V1]))),.set 6 false (.ix V2 (.bin .mod (.bin .fdiv V4 (kI 31)) (.bi .len [V2]))),.set 7 false (.call 37 [(.call 36 [(.ix V5 (kI 1)),V3]),(.call 36 [(.ix V6 (kI 1)),V3])]),.ret (.bi .max [(kI 0),(.bin .sub V7 (.bin .mod (.bin .fdiv V4 (kI 4)) (kI 2)))])]⟩
def f_law_due:Fd:=⟨4,9,[.set 4 false (.compS (.call 36 [(.ix V0 (kI 1)),V1]) 1 [3] (.one 0) V1),.set 5 true (.lst []),.forS (.one 6) V0 zR,.ret (.bi .tuple [(.bi .sorted [V5])])]⟩
def f_law:Fd:=⟨1,12,[.set 1 false (.bin .add (kI 2) (.bi .int [(.cmp .eq (.bin .mod (.call 28 [V0,(kI 0)]) (kI 4)) (kI 1))])),.set 2 false (.bin .mod (.call 28 [V0,(kI 1)]) (kI 54)),.set 3 false (.bin .add (kI 4) (.bin .mod (.call 28 [V0,(kI 2)]) (kI 4))),.asgL [4,5] (.call 35 [V0,V1,V2]),.set 6 false (.call 38 [(.call 28 [V0,(kI 3)])]),.set 7 false (.call 39 [V0,V4,V5,V6]),.set 8 false (.bin .mod (.bin .fdiv (.call 28 [V0,(kI 0)]) (kI 4)) (kI 1000)),.set 9 false (.call 34 [V4,V3,V8]),.set 10 false (.call 34 [V5,V3,(.bin .fdiv V8 (kI 2))]),.ite (.cmp .eq V6 (kI 0)) [.set 11 false (.call 27 [V9,kh,V7,(kI 0)])] [.set 11 false (.call 27 [V9,kh,V7,V6])],.ite (.or (.not (.isi lM .tuple)) (.or (.cmp .ne (.bi .len [lM]) (kI 2)) (.not (.isi (.ix lM (kI 1)) .tuple)))) [.ret (.k (.bl false))] [],.ret (.call 29 [(.ix lM (kI 0)),(.call 40 [V4,V5,V7,V6])])]⟩
def rT:Fd:=⟨4,4,[.ret (.call 24 [V0,V1,V3,V2])]⟩
def tab:List Fd:=[f_side_gap,f_box_gap,f_side_at,f_frame_at,uE,uD,uk,uG,uH,f_is_leaf,f_page_told,f_page_parts,f_things_in,um,uo,f_parts_or_itself,f_places_behind,f_join_cut,f_join_paper,f_is_open_leaves,f_boxes_of,f_gaps_of_leaves,f_is_apart,f_is_whole_near,f_pairs_word,f_pairs_of_whole,f_pairs_of_rows,f_near_pairs,f_law_cell_at,f_law_alike,f_law_draw,f_law_thing,f_law_told,f_law_cuts,f_law_tree,f_law_two_rows,f_law_frame_at,f_law_gap,f_law_beat,f_law_far,f_law_due,f_law,rT]
theorem t0:tab[0]?=some f_side_gap:=rfl
theorem t1:tab[1]?=some f_box_gap:=rfl
theorem t2:tab[2]?=some f_side_at:=rfl
theorem t3:tab[3]?=some f_frame_at:=rfl
theorem t4:tab[4]?=some uE:=rfl
theorem t5:tab[5]?=some uD:=rfl
theorem t6:tab[6]?=some uk:=rfl
theorem t7:tab[7]?=some uG:=rfl
theorem t8:tab[8]?=some uH:=rfl
theorem t9:tab[9]?=some f_is_leaf:=rfl
theorem vJ:tab[10]?=some f_page_told:=rfl
theorem vI:tab[11]?=some f_page_parts:=rfl
theorem qY:tab[12]?=some f_things_in:=rfl
theorem vH:tab[13]?=some um:=rfl
theorem vG:tab[14]?=some uo:=rfl
theorem vF:tab[15]?=some f_parts_or_itself:=rfl
theorem vE:tab[16]?=some f_places_behind:=rfl
theorem vD:tab[17]?=some f_join_cut:=rfl
theorem vC:tab[18]?=some f_join_paper:=rfl
theorem vB:tab[19]?=some f_is_open_leaves:=rfl
theorem vA:tab[20]?=some f_boxes_of:=rfl
theorem vz:tab[21]?=some f_gaps_of_leaves:=rfl
theorem vy:tab[22]?=some f_is_apart:=rfl
theorem vx:tab[23]?=some f_is_whole_near:=rfl
theorem vw:tab[24]?=some f_pairs_word:=rfl
theorem vt:tab[25]?=some f_pairs_of_whole:=rfl
theorem vq:tab[26]?=some f_pairs_of_rows:=rfl
theorem t27:tab[27]?=some f_near_pairs:=rfl
theorem vp:tab[28]?=some f_law_cell_at:=rfl
theorem nY:tab[29]?=some f_law_alike:=rfl
theorem vo:tab[30]?=some f_law_draw:=rfl
theorem vn:tab[31]?=some f_law_thing:=rfl
theorem vm:tab[32]?=some f_law_told:=rfl
theorem vk:tab[33]?=some f_law_cuts:=rfl
theorem vj:tab[34]?=some f_law_tree:=rfl
theorem vi:tab[35]?=some f_law_two_rows:=rfl
theorem vh:tab[36]?=some f_law_frame_at:=rfl
theorem vg:tab[37]?=some f_law_gap:=rfl
theorem ve:tab[38]?=some f_law_beat:=rfl
theorem vd:tab[39]?=some f_law_far:=rfl
theorem vc:tab[40]?=some f_law_due:=rfl
theorem qX:tab[41]?=some f_law:=rfl
theorem t42:tab[42]?=some rT:=rfl
end Dw.T
namespace Dw
noncomputable abbrev zF (d:D):Option R:=some (false,d)
noncomputable abbrev zT (d:D):Option R:=some (true,d)
abbrev ba:=@List.getElem?_cons_zero
abbrev aZ:=@List.getElem?_cons_succ
abbrev aY:=@Option.bind_some
abbrev aX:=@Option.join_some
abbrev aR:=@Option.map_some
abbrev fW:=@List.set_cons_zero
abbrev fV:=@List.set_cons_succ
abbrev iC:=@List.length_cons
abbrev qE:=@List.length_map
abbrev fU:=@Bool.and_false
abbrev iB:=@List.length_nil
abbrev zAl:=@List.map_cons
abbrev uY:=@List.take_of_length_le
abbrev zAt:=@List.getElem?_map
abbrev zBa:=@List.mem_range
abbrev zBe:=@Int.fmod_eq_emod_of_nonneg
abbrev jj:=@Int.fdiv_eq_ediv_of_nonneg
abbrev uX:=@Int.mul_le_mul_of_nonneg_right
abbrev zBo:=@List.getElem?_eq_some_iff
abbrev zBt:=@List.drop_eq_nil_of_le
abbrev qD:=@Nat.min_eq_right
abbrev uW:=@Nat.pow_le_pow_right
abbrev uV:=@Nat.min_eq_left
abbrev zCj:=@List.map_drop
abbrev zCk:=@List.map_take
theorem cJ {n:Nat}(h:n<=16777216):n<=lim:=h
theorem jN {n:Nat}(h:n<16777216):n<lim:=h
theorem qTC:(1<=lim)=True:=eq_true (cJ (by decide))
theorem vX:(2<=lim)=True:=eq_true (cJ (by decide))
def f7:=fD
def fE:=gJ
def cK:=lK
def bu:=uM
def vL:=qZ
def gB:=iS
def fF:=gI
def isP:=lJ
def vY:=rp
def jy:=eg
def i4:=bD
def oy:=fI
def rA:=iJ
section
variable (a b:Int) (x y z:D) (xs ys:List D)
@[simp] theorem ir:f7 .add (.int a) (.int b)=some (false,.int (a+b)):=rfl
@[simp] theorem lF:f7 .sub (.int a) (.int b)=some (false,.int (a - b)):=rfl
@[simp] theorem lE:f7 .mul (.int a) (.int b)=if h9 a b then some (false,.int (a * b)) else none:=rfl
@[simp] theorem dw:f7 .fdiv (.int a) (.int b)=if aT b then some (false,.int (a.fdiv b)) else none:=rfl
@[simp] theorem bU:f7 .mod (.int a) (.int b)=if aT b then some (false,.int (a.fmod b)) else none:=rfl
@[simp] theorem jd:f7 .pow (.int a) (.int b)=if gR a b then some (false,.int (a^b.toNat)) else none:=rfl
@[simp] theorem qJe:f7 .band (.int a) (.int b)=if 0<=a/\0<=b then some (false,.int ((a.toNat &&& b.toNat:Nat):Int)) else none:=rfl
@[simp] theorem qLa:f7 .bor (.int a) (.int b)=if 0<=a/\0<=b then some (false,.int ((a.toNat ||| b.toNat:Nat):Int)) else none:=rfl
@[simp] theorem qJf:f7 .add (.lst xs) (.lst ys)=if xs.length+ys.length<=lim then some (true,.lst (xs++ys)) else none:=rfl
@[simp] theorem qSG:fE .eq x y=if (cF 20 x||cF 20 y)&&(cg x&&cg y) then some (false,.bl (aV x y)) else none:=rfl
@[simp] theorem qSC:fE .ne x y=if (cF 20 x||cF 20 y)&&(cg x&&cg y) then some (false,.bl (!aV x y)) else (om x y).map λe=>(false,.bl (!e)):=rfl
@[simp] theorem jZ:fE .eq (.int a) (.int b)=some (false,.bl (aV (.int a) (.int b))):=rfl
@[simp] theorem qRv:fE .ne (.int a) (.int b)=some (false,.bl (!aV (.int a) (.int b))):=rfl
@[simp] theorem yc:fE .lt (.int a) (.int b)=some (false,.bl (decide (a<b))):=rfl
@[simp] theorem qSD:fE .le (.int a) (.int b)=some (false,.bl (decide (a<=b))):=rfl
@[simp] theorem qSE:fE .gt (.int a) (.int b)=some (false,.bl (decide (b<a))):=rfl
@[simp] theorem qSF:fE .ge (.int a) (.int b)=some (false,.bl (decide (b<=a))):=rfl
theorem qQz (i j:Int):(if j<i then j else i)=min i j:=by omega
theorem sd (i j:Int):(if i<j then j else i)=max i j:=by omega
@[simp] theorem qRy:cK .len [.tup xs]=some (false,.int xs.length):=rfl
@[simp] theorem fM:cK .len [.lst xs]=some (false,.int xs.length):=rfl
@[simp] theorem qSO:cK .min [.int a,.int b]=some (false,.int (min a b)):=by rw [<-qQz];rfl
@[simp] theorem tu:cK .max [.int a,.int b]=some (false,.int (max a b)):=by rw [<-sd];rfl
@[simp] theorem yU (c:Int):cK .max [.int a,.int b,.int c]=some (false,.int (max (max a b) c)):=by rw [<-sd,<-sd];rfl
@[simp] theorem xT:cK .sum [.lst xs]=(dY xs).map λis=>(false,.int is.sum):=rfl
@[simp] theorem qSP:cK .all [.lst xs]=(oX xs).map λbs=>(false,.bl (bs.all id)):=rfl
@[simp] theorem qLc:cK .tuple [.lst xs]=some (false,.tup xs):=rfl
@[simp] theorem qRx:cK .list [.lst xs]=some (true,.lst xs):=rfl
@[simp] theorem oV:bu (.lst xs) (.int a)=(gB xs a).map (false,·):=rfl
@[simp] theorem wc:bu (.tup xs) (.int a)=(gB xs a).map (false,·):=rfl
@[simp] theorem qSi:gB (x::xs) 0=some x:=by simp [gB]
@[simp] theorem qSh:gB (x::y::xs) 1=some y:=by
 simp only [gB,iS,ixN,dG];rw [Ql (by omega),Ql (by omega)];rfl
theorem qNU (j:Nat):gB xs (j:Int)=xs[j]?:=by
 simp only [gB,iS,ixN];rw [Ql (by omega)]
 by_cases h:j<xs.length
 ·rw [Ql (by omega)];simp
 ·rw [Qm (by omega)];simp;omega
@[simp] theorem qTq (l h):vL l h (.lst xs)=some (true,.lst (fF xs l h)):=rfl
@[simp] theorem qRl:vY (.int a)=some (false,.int (-a)):=rfl
@[simp] theorem qPv:jy [.int a]=if -(2^62)<=a/\a<2^62 then some ((List.range a.toNat).map λi=>.int (i:Nat)) else none:=rfl
@[simp] theorem qOv:cK .sorted [.lst xs]=jF xs:=rfl
@[simp] theorem qLd:cK .min [.lst xs]=kH xs:=rfl
theorem qH9 {xs:List D}{is:List Int}{m:Int}(h:dY xs=some is) (hm:j6 is=some m):kH xs=some (false,.int m):=by
 unfold kH;rw [h];simp only [hm,ko]
@[simp] theorem qLe:cK .max [.lst xs]=(dY xs).bind λis=>(j3 is).map λm=>(false,.int m):=rfl
theorem qPu (n:Nat) (h:n<=10000):jy [.int n]=some ((List.range n).map λi=>.int (i:Nat)):=by
 rw [qPv,Ql (by omega)];simp
end
section
variable (call:Nat->List D->Option R) (Z:En)
@[simp 5000] theorem vS (i):aa call Z (.v i)=kP (ao Z i):=rfl
@[simp 5000] theorem bp (d):aa call Z (.k d)=some (false,d):=rfl
@[simp 5000] theorem aN (o a b):aa call Z (.bin o a b)=match pk Z a (aa call Z a) with
 | none=>none|some x=>match pk Z b (aa call Z b) with|none=>none|some y=>f7 o x y:=by
 rw [yj];cases pk Z a (aa call Z a)<;>first|rfl|(cases pk Z b (aa call Z b)<;>rfl)
@[simp 5000] theorem qSW (a):aa call Z (.neg a)=match pk Z a (aa call Z a) with|none=>none|some x=>vY x:=by
 rw [ym];cases pk Z a (aa call Z a)<;>rfl
@[simp 5000] theorem ip (o a b):aa call Z (.cmp o a b)=match pk Z a (aa call Z a) with
 | none=>none|some x=>match pk Z b (aa call Z b) with|none=>none|some y=>fE o x y:=by
 rw [sJ];cases pk Z a (aa call Z a)<;>first|rfl|(cases pk Z b (aa call Z b)<;>rfl)
@[simp 5000] theorem qSX (n a d):aa call Z (.isC n a d)=match pk Z a (aa call Z a) with|none=>none|some x=>isP n x d:=by
 rw [sN];cases pk Z a (aa call Z a)<;>rfl
@[simp 5000] theorem w6 (a b):aa call Z (.and a b)=match aa call Z a with
 | none=>none|some (_,.bl c)=>(if c=true then aa call Z b else some (false,.bl false))|some _=>none:=by
 rw [yi];rcases aa call Z a with _|⟨x,d⟩<;>first|rfl|(cases d<;>first|rfl|(rename_i c;cases c<;>rfl))
@[simp 5000] theorem wO (a b):aa call Z (.or a b)=match aa call Z a with
 | none=>none|some (_,.bl c)=>(if c=true then some (false,.bl true) else aa call Z b)|some _=>none:=by
 rw [xM];rcases aa call Z a with _|⟨x,d⟩<;>first|rfl|(cases d<;>first|rfl|(rename_i c;cases c<;>rfl))
@[simp 5000] theorem qOI (a):aa call Z (.not a)=match aa call Z a with
 | none=>none|some (_,.bl c)=>some (false,.bl (!c))|some _=>none:=by
 rw [yn];rcases aa call Z a with _|⟨x,d⟩<;>first|rfl|(cases d<;>rfl)
@[simp 5000] theorem eS (a b):aa call Z (.ix a b)=match pk Z a (aa call Z a) with
 | none=>none|some x=>match pk Z b (aa call Z b) with|none=>none|some y=>bu x y:=by
 rw [xK];cases pk Z a (aa call Z a)<;>first|rfl|(cases pk Z b (aa call Z b)<;>rfl)
@[simp 5000] theorem wQ (a lo hi):aa call Z (.sl a lo hi)=match pk Z a (aa call Z a) with
 | none=>none|some x=>match gC call Z lo with|none=>none|some l=>match gC call Z hi with|none=>none|some h=>vL l h x:=by
 rw [xN];cases pk Z a (aa call Z a)<;>first|rfl|(cases gC call Z lo<;>first|rfl|(cases gC call Z hi<;>rfl))
@[simp 5000] theorem jS (as):aa call Z (.tup as)=match cY call Z as with|none=>none|some xs=>if xs.length<=lim then some (false,.tup xs) else none:=by
 rw [iO];cases cY call Z as<;>rfl
@[simp 5000] theorem sF (as):aa call Z (.lst as)=match cY call Z as with|none=>none|some xs=>if xs.length<=lim then some (true,.lst xs) else none:=by
 rw [yk];cases cY call Z as<;>rfl
@[simp 5000] theorem zo (f as):aa call Z (.call f as)=match eU call Z as with|none=>none|some xs=>call f xs:=by
 rw [mP];cases eU call Z as<;>rfl
@[simp 5000] theorem fJ (b as):aa call Z (.bi b as)=match bY call Z as with|none=>none|some xs=>cK b xs:=by
 rw [sj];cases bY call Z as<;>rfl
@[simp 5000] theorem qOJ (c a b):aa call Z (.ifx c a b)=match aa call Z c with
 | none=>none|some (_,.bl t)=>(if t=true then aa call Z a else aa call Z b)|some _=>none:=by
 rw [sM];rcases aa call Z c with _|⟨x,d⟩<;>first|rfl|(cases d<;>first|rfl|(rename_i c;cases c<;>rfl))
@[simp 5000] theorem qJA (e nl ks tg rs):aa call Z (.compR e nl ks tg rs)=match bY call Z rs with
 | none=>none|some x=>match jy x with|none=>none|some its=>if its.length<=lim then (match cB call e (bg Z nl ks) tg its with|none=>none|some ys=>some (true,.lst ys)) else none:=by
 rw [zW]
 cases bY call Z rs with
 | none=>rfl
 | some x => show (eg x).bind _ = match eg x with | none => none | some its => _
             cases eg x with
             | none=>rfl
             | some its => show (if its.length <= lim then (cB call e (bg Z nl ks) tg its).bind _ else none) = if its.length <= lim then (match cB call e (bg Z nl ks) tg its with | none => none | some ys => _) else none
                           cases cB call e (bg Z nl ks) tg its<;>rfl
@[simp 5000] theorem qJz (e nl ks tg a b):aa call Z (.compZ e nl ks tg a b)=match aa call Z a with
 | none=>none|some x=>match aa call Z b with|none=>none|some y=>match i4 x.2 with|none=>none|some xs=>match oy y.2 with|none=>none|some ys=>match cB call e (bg Z nl ks) tg (bN xs ys) with|none=>none|some zs=>some (true,.lst zs):=by
 rw [zY]
 cases aa call Z a with
 | none=>rfl
 | some x =>
  cases aa call Z b with
  | none=>rfl
  | some y =>
   show (bD x.2).bind _=match bD x.2 with|none=>none|some its=>_
   cases bD x.2 with
   | none=>rfl
   | some xs =>
    show (fI y.2).bind _=match fI y.2 with|none=>none|some its=>_
    cases fI y.2 with
    | none=>rfl
    | some ys =>
     show (cB call e (bg Z nl ks) tg (bN xs ys)).bind _=match cB call e (bg Z nl ks) tg (bN xs ys) with|none=>none|some ys=>_
     cases cB call e (bg Z nl ks) tg (bN xs ys)<;>rfl
@[simp 5000] theorem qMr (a):aa call Z (.revL a)=match pk Z a (aa call Z a) with|none=>none|some d=>rN d:=by
 rw [zf];cases pk Z a (aa call Z a)<;>rfl
@[simp 5000] theorem gX (a r):cY call Z (a::r)=match aa call Z a with|none=>none|some x=>match cY call Z r with|none=>none|some xs=>some (x.2::xs):=by
 rw [dC];cases aa call Z a<;>first|rfl|(cases cY call Z r<;>rfl)
@[simp 5000] theorem zp (a r):eU call Z (a::r)=match ag Z a (aa call Z a) with|none=>none|some x=>match eU call Z r with|none=>none|some xs=>some (x::xs):=by
 rw [jT];cases ag Z a (aa call Z a)<;>first|rfl|(cases eU call Z r<;>rfl)
@[simp 5000] theorem eI (a r):bY call Z (a::r)=match pk Z a (aa call Z a) with|none=>none|some x=>match bY call Z r with|none=>none|some xs=>some (x::xs):=by
 rw [tN];cases pk Z a (aa call Z a)<;>first|rfl|(cases bY call Z r<;>rfl)
@[simp 5000] theorem qRD (c):gC call Z (some c)=match pk Z c (aa call Z c) with|none=>none|some x=>rq x:=by
 rw [zg];cases pk Z c (aa call Z c)<;>rfl
variable (rest:List S)
@[simp 5000] theorem qOE (is):ak call Z (.frz is::rest)=ak call (is.foldl frz1 Z) rest:=rfl
@[simp 5000] theorem qOC (i keep e):ak call Z (.set i keep e::rest)=match aa call Z e with|none=>none|some r=>ak call (Z.set i (some (dW keep r))) rest:=by
 rw [eD,xU];cases aa call Z e<;>rfl
@[simp 5000] theorem qOF (i e):ak call Z (.app i e::rest)=match aa call Z e with|none=>none|some x=>match rA Z i x.2 with|some (.nx Z')=>ak call Z' rest|some (.rt r)=>some (.rt r)|some (.bk q)=>some (.bk q)|some (.ct q)=>some (.ct q)|none=>none:=by
 rw [eD,yp]
 cases aa call Z e with
 | none=>rfl
 | some x =>
  show (iJ Z i x.2).bind _=match iJ Z i x.2 with|some (.nx Z')=>_|some (.rt r)=>_|some (.bk q)=>_|some (.ct q)=>_|none=>_
  rcases iJ Z i x.2 with _|(_|_|_|_)<;>rfl
@[simp 5000] theorem qOD (e):ak call Z (.ret e::rest)=match eM Z e (aa call Z e) with|none=>none|some r=>some (.rt r):=by
 rw [eD,pN];cases eM Z e (aa call Z e)<;>rfl
@[simp 5000] theorem sG (c a b):ak call Z (.ite c a b::rest)=match aa call Z c with
 | none=>none
 | some (_,.bl t)=>if t=true then (match ak call Z a with|some (.nx Z')=>ak call Z' rest|some (.rt r)=>some (.rt r)|some (.bk q)=>some (.bk q)|some (.ct q)=>some (.ct q)|none=>none)
   else (match ak call Z b with|some (.nx Z')=>ak call Z' rest|some (.rt r)=>some (.rt r)|some (.bk q)=>some (.bk q)|some (.ct q)=>some (.ct q)|none=>none)
 | some _=>none:=by
 rw [eD,yq]
 rcases aa call Z c with _|⟨x,d⟩
 ·rfl
 ·cases d with
  | bl t =>
   cases t with
   | true => show (ak call Z a).bind _ = match ak call Z a with | some (.nx Z') => _ | some (.rt r) => _ | some (.bk q) => _ | some (.ct q) => _ | none => _
             rcases ak call Z a with _|(_|_|_|_)<;>rfl
   | false => show (ak call Z b).bind _ = match ak call Z b with | some (.nx Z') => _ | some (.rt r) => _ | some (.bk q) => _ | some (.ct q) => _ | none => _
              rcases ak call Z b with _|(_|_|_|_)<;>rfl
  | _=>rfl
@[simp 5000] theorem qMp (tg src body):ak call Z (.forS tg src body::rest)=match aa call Z src with|none=>none|some x=>match i4 x.2 with|none=>none|some its=>match bV call body tg its Z with|some (.nx Z')=>ak call Z' rest|some (.rt r)=>some (.rt r)|some (.bk q)=>some (.bk q)|some (.ct q)=>some (.ct q)|none=>none:=by
 rw [eD,zi]
 cases aa call Z src with
 | none=>rfl
 | some x =>
  show ((bD x.2).bind _).bind _=match bD x.2 with|none=>none|some its=>_
  cases bD x.2 with
  | none=>rfl
  | some its =>
   show (bV call body tg its Z).bind _=match bV call body tg its Z with|some (.nx Z')=>_|some (.rt r)=>_|some (.bk q)=>_|some (.ct q)=>_|none=>_
   rcases bV call body tg its Z with _|(_|_|_|_)<;>rfl
@[simp 5000] theorem qMq (tg rs body):ak call Z (.forR tg rs body::rest)=match bY call Z rs with|none=>none|some x=>match jy x with|none=>none|some its=>match bV call body tg its Z with|some (.nx Z')=>ak call Z' rest|some (.rt r)=>some (.rt r)|some (.bk q)=>some (.bk q)|some (.ct q)=>some (.ct q)|none=>none:=by
 rw [eD,zh]
 cases bY call Z rs with
 | none=>rfl
 | some x =>
  show ((eg x).bind _).bind _=match eg x with|none=>none|some its=>_
  cases eg x with
  | none=>rfl
  | some its =>
   show (bV call body tg its Z).bind _=match bV call body tg its Z with|some (.nx Z')=>_|some (.rt r)=>_|some (.bk q)=>_|some (.ct q)=>_|none=>_
   rcases bV call body tg its Z with _|(_|_|_|_)<;>rfl
@[simp 5000] theorem qMo (tg a b body):ak call Z (.forZ tg a b body::rest)=match aa call Z a with|none=>none|some x=>match aa call Z b with|none=>none|some y=>match i4 x.2 with|none=>none|some xs=>match oy y.2 with|none=>none|some ys=>match bV call body tg (bN xs ys) Z with|some (.nx Z')=>ak call Z' rest|some (.rt r)=>some (.rt r)|some (.bk q)=>some (.bk q)|some (.ct q)=>some (.ct q)|none=>none:=by
 rw [eD,zj]
 cases aa call Z a with
 | none=>rfl
 | some x =>
  cases aa call Z b with
  | none=>rfl
  | some y =>
   show ((bD x.2).bind _).bind _=match bD x.2 with|none=>none|some its=>_
   cases bD x.2 with
   | none=>rfl
   | some xs =>
    show ((fI y.2).bind _).bind _=match fI y.2 with|none=>none|some its=>_
    cases fI y.2 with
    | none=>rfl
    | some ys =>
     show (bV call body tg (bN xs ys) Z).bind _=match bV call body tg (bN xs ys) Z with|some (.nx Z')=>_|some (.rt r)=>_|some (.bk q)=>_|some (.ct q)=>_|none=>_
     rcases bV call body tg (bN xs ys) Z with _|(_|_|_|_)<;>rfl
theorem qLg {Z:En}{i:Nat}{xs:List D}{e:D}(h:ao Z i=some (true,.lst xs)) (hl:xs.length<lim):rA Z i e=some (.nx (Z.set i (some (true,.lst (xs++[e]))))):=by
 show iJ Z i e=_
 unfold iJ;rw [h];simp only;rw [Ql hl]
section
variable {call:Nat->List D->Option R}{Z:En}{rest:List S}{z:Option Ou}
theorem au {i:Nat}{keep:Bool}{e:C}(r:R) (h:aa call Z e=some r) (k:ak call (Z.set i (some (dW keep r))) rest=z):ak call Z (.set i keep e::rest)=z:=by
 rw [qOC,h];exact k
theorem jR {i:Nat}{e:C}{xs:List D}(r:R) (h:aa call Z e=some r) (ho:ao Z i=some (true,.lst xs)) (hl:xs.length<lim) (k:ak call (Z.set i (some (true,.lst (xs++[r.2])))) rest=z):ak call Z (.app i e::rest)=z:=by
 rw [qOF,h];show (match rA Z i r.2 with|some (.nx Z')=>ak call Z' rest|some (.rt r)=>some (.rt r)|some (.bk q)=>some (.bk q)|some (.ct q)=>some (.ct q)|none=>none)=z
 rw [qLg ho hl];exact k
theorem iK {c:C}{a b:List S}{x:Bool}{Z':En}(h:aa call Z c=some (x,.bl true)) (ha:ak call Z a=some (.nx Z')) (k:ak call Z' rest=z):ak call Z (.ite c a b::rest)=z:=by
 rw [sG,h];simp only [if_true];rw [ha];exact k
theorem v5 {c:C}{a b:List S}{x:Bool}{Z':En}(h:aa call Z c=some (x,.bl false)) (ha:ak call Z b=some (.nx Z')) (k:ak call Z' rest=z):ak call Z (.ite c a b::rest)=z:=by
 rw [sG,h];simp only [fB,if_false];rw [ha];exact k
theorem bJ {c:C}{a:List S}{x:Bool}(h:aa call Z c=some (x,.bl false)) (k:ak call Z rest=z):ak call Z (.ite c a []::rest)=z:=v5 h rfl k
theorem eQ {c:C}{a b:List S}{x:Bool}{r:R}(h:aa call Z c=some (x,.bl true)) (ha:ak call Z a=some (.rt r)) (k:some (.rt r)=z):ak call Z (.ite c a b::rest)=z:=by
 rw [sG,h];simp only [if_true];rw [ha];exact k
theorem pQ {tg:Tg}{rs:List C}{body:List S}{ds its:List D}{Z':En}(h:bY call Z rs=some ds) (hr:jy ds=some its) (hf:bV call body tg its Z=some (.nx Z')) (k:ak call Z' rest=z):ak call Z (.forR tg rs body::rest)=z:=by
 rw [qMq,h];simp only;rw [hr];simp only;rw [hf];exact k
theorem k6 {i:Nat}{e:C}{xs ys:List D}(h:aa call Z e=some (true,.lst ys)) (ho:ao Z i=some (true,.lst xs)) (hl:xs.length+ys.length<=lim) (k:ak call (Z.set i (some (true,.lst (xs++ys)))) rest=z):ak call Z (.ext i e::rest)=z:=by
 rw [eD,sO,h]
 simp only [bL,n5]
 rw [ho]
 simp only
 rw [Ql hl]
 exact k
theorem qPa {tg:Tg}{i:Nat}{xs:List D}{d:D}{Z':En}(ho:ao Z i=some (true,.lst (xs++[d]))) (hb:cN (Z.set i (some (true,.lst xs))) tg d=some Z') (k:ak call Z' rest=z):ak call Z (.pop tg i::rest)=z:=by
 rw [eD,yr]
 unfold ov
 rw [ho]
 simp only [List.getLast?_append,List.getLast?_singleton,bL,List.dropLast_concat,Option.some_or]
 rw [hb]
 exact k
theorem xE {c:C}{body:List S}{o:Ou}(h:ie (fun Z'=>aa call Z' c) (fun Z'=>ak call Z' body) jg Z=some o) (k:(match o with|.nx Z'=>ak call Z' rest|.rt r=>some (.rt r)|.bk q=>some (.bk q)|.ct q=>some (.ct q))=z):ak call Z (.whl c body::rest)=z:=by
 rw [eD,xV,h]
 cases o<;>exact k
theorem jf {tg:Tg}{src:C}{body:List S}{r:R}{its:List D}{Z':En}(h:aa call Z src=some r) (hr:i4 r.2=some its) (hf:bV call body tg its Z=some (.nx Z')) (k:ak call Z' rest=z):ak call Z (.forS tg src body::rest)=z:=by
 rw [qMp,h];simp only;rw [hr];simp only;rw [hf];exact k
theorem aE {e:C}{r:R}(h:eM Z e (aa call Z e)=some r) (k:some (.rt r)=z):ak call Z (.ret e::rest)=z:=by
 rw [qOD,h];exact k
theorem tF {e:C}{nl:Nat}{ks:List Nat}{tg:Tg}{rs:List C}{ds its ys:List D}{Z':En}(h:bY call Z rs=some ds) (hr:jy ds=some its) (hl:its.length<=lim) (hc:bg Z nl ks=Z') (hf:cB call e Z' tg its=some ys):aa call Z (.compR e nl ks tg rs)=some (true,.lst ys):=by
 subst hc
 rw [qJA,h];simp only;rw [hr];simp only;rw [Ql hl,hf]
theorem eO {c:C}{r:R}(h:aa call Z c=some r):pk Z c (aa call Z c)=some r.2:=by
 cases c with
 | v i =>
  rw [wu] at h
  show (ao Z i).bind aL=_
  cases hg:ao Z i with
  | none=>rw [hg] at h;cases h
  | some q =>
   rw [hg] at h
   obtain⟨b,d⟩:=q
   cases b with
   | false=>cases h;rfl
   | true=>cases h
 | _=>rw [h];rfl
theorem gT {e:C}{nl:Nat}{ks:List Nat}{tg:Tg}{src:C}{r:R}{its ys:List D}{Z':En}(h:aa call Z src=some r) (hr:i4 r.2=some its) (hc:bg Z nl ks=Z') (hf:cB call e Z' tg its=some ys):aa call Z (.compS e nl ks tg src)=some (true,.lst ys):=by
 subst hc
 rw [zX,eO h,bL,show bD r.2=some its from hr,bL,hf]
 rfl
end
theorem qTb (fd:Fd) (as:List D) (h:as.length=fd.np):i0 call fd as=match ak call (bX false as++List.replicate (fd.ns - fd.np) none) fd.body with|some (.nx _)=>some (false,.non)|some (.rt r)=>some r|some (.bk _)=>none|some (.ct _)=>none|none=>none:=by
 unfold i0;rw [Ql h]
 rcases ak call (bX false as++List.replicate (fd.ns - fd.np) none) fd.body with _|(_|_|_|_)<;>rfl
end
theorem qJb {tab:List Fd}{f:Nat}{fd:Fd}(h:tab[f]?=some fd) (n:Nat) (as:List D) (hl:as.length=fd.np):aD tab (n+1) f as =
  match ak (aD tab n) (bX false as++List.replicate (fd.ns - fd.np) none) fd.body with|some (.nx _)=>some (false,.non)|some (.rt r)=>some r|some (.bk _)=>none|some (.ct _)=>none|none=>none:=by
 rw [mN h,qTb _ _ _ hl]
theorem aK {tab:List Fd}{f:Nat}{fd:Fd}{as:List D}{n:Nat}{r:R}{Z:En}(h:tab[f]?=some fd) (hl:as.length=fd.np) (hZ:bX false as++List.replicate (fd.ns - fd.np) none=Z) (hb:ak (aD tab n) Z fd.body=some (.rt r)):aD tab (n+1) f as=some r:=by
 subst hZ
 rw [qJb h n as hl,hb]
end Dw
namespace Dw.T
open Dw
section
variable {call:Nat->List D->Option R}{body:List S}{tg:Tg}
theorem iq (I:Nat->En->Prop):∀(its:List D) (a:Nat) (Z:En),I a Z ->
  (∀(k:Nat) (d:D) (Z:En),its[k]?=some d->I (a+k) Z->∃Z1 Z2,cN Z tg d=some Z1/\ak call Z1 body=some (.nx Z2)/\I (a+k+1) Z2) ->
  ∃Z',bV call body tg its Z=some (.nx Z')/\I (a+its.length) Z'
 | [],a,Z,h,_=>⟨Z,rfl,by simpa using h⟩
 | d::r,a,Z,h,st=>by
  obtain⟨Z1,Z2,h1,h2,h3⟩:=st 0 d Z rfl (by simpa using h)
  obtain⟨Z',e,h'⟩:=iq I r (a+1) Z2 (by simpa using h3) λk d Z hk hi=>by
   have:=st (k+1) d Z (by simpa using hk) (by rw [show a+(k+1)=a+1+k by omega];exact hi)
   rw [show a+(k+1)+1=a+1+k+1 by omega] at this
   exact this
  refine⟨Z',?_,?_⟩
  ·rw [Ao,h1];simp [h2,e]
  ·rw [show a+(d::r).length=a+1+r.length by simp;omega];exact h'
theorem jX (I:Nat->En->Prop) (m:Nat) (f:Nat->D) (Z:En) (h:I 0 Z)
  (st:∀(k:Nat) (Z:En),k<m->I k Z->∃Z1 Z2,cN Z tg (f k)=some Z1/\ak call Z1 body=some (.nx Z2)/\I (k+1) Z2) :
  ∃Z',bV call body tg ((List.range m).map f) Z=some (.nx Z')/\I m Z':=by
 obtain⟨Z',e,h'⟩:=iq (call:=call) (body:=body) (tg:=tg) I ((List.range m).map f) 0 Z h λk d Z hk hi=>by
  rw [zAt] at hk
  cases q:(List.range m)[k]? with
  | none=>rw [q] at hk;cases hk
  | some j =>
   rw [q] at hk
   obtain⟨hl,ej⟩:=zBo.mp q
   simp at hl ej
   subst ej
   cases hk
   simpa using st k Z hl (by simpa using hi)
 exact⟨Z',e,by simpa using h'⟩
end
noncomputable def bx (m:Nat) (f:Nat->D):List D:=(List.range m).map f
@[simp] theorem lr (m f):(bx m f).length=m:=by simp [bx]
theorem qQQ {m:Nat}(f:Nat->D) {j:Nat}(h:j<m):(bx m f)[j]?=some (f j):=by simp [bx,h]
theorem qQq {m:Nat}(f:Nat->D) {j:Nat}(h:j<m):gB (bx m f) (j:Int)=some (f j):=by
 rw [qNU,qQQ f h]
theorem pC (m:Nat) (f g:Nat->D):bN (bx m f) (bx m g)=(List.range m).map λj=>.tup [f j,g j]:=by
 unfold bx
 generalize List.range m=l
 induction l with
 | nil=>rfl
 | cons x r ih=>simp only [zAl,bN,List.zipWith_cons_cons] at ih ⊢;rw [ih]
noncomputable def fk (ns:List Int) (k:Nat):Int:=(ns[k]?).getD 0
abbrev P2:=Int×Int
noncomputable def side (p:P2):D:=.tup [.int p.1,.int p.2]
def bE (m:Nat) (f:Nat->P2):D:=.tup (bx m λj=>side (f j))
theorem qK1 {call:Nat->List D->Option R}{e:C}{m:Nat}{F G:Nat->D}(g:Nat->D)
  (h:∀j,j<m->∃b,aa call [some (false,F j),some (false,G j)] e=some (b,g j)) :
  cB call e [none,none] (.two 0 1) (bN (bx m F) (bx m G))=some (bx m g):=by
 rw [pC]
 exact fO call [none,none] (e:=e) (tg:=.two 0 1) (λj=>.tup [F j,G j]) g (List.range m) λj hj=>by
  obtain⟨b,hb⟩:=h j (zBa.mp hj)
  exact⟨_,b,rfl,hb⟩
theorem xm (p:P2):bu (side p) (.int 0)=some (false,.int p.1):=rfl
theorem xn (p:P2):bu (side p) (.int 1)=some (false,.int p.2):=rfl
theorem qKF {m j:Nat}(f:Nat->D) (h:j<m):bu (.tup (bx m f)) (.int (j:Int))=some (false,f j):=by
 rw [wc,qQq _ h];rfl
theorem qJ5 (m:Nat) (f:Nat->P2):i4 (bE m f)=some (bx m λj=>side (f j)):=rfl
theorem y6 {call:Nat->List D->Option R}{e:C}{m:Nat}{r:List (Option R)}(g:Nat->D) (h:∀j:Nat,j<m->∃b,aa call (some (false,.int (j:Int))::r) e=some (b,g j)) :
  cB call e (none::r) (.one 0) ((List.range m).map λi=>.int (i:Nat))=some (bx m g):=
 fO call (none::r) (e:=e) (tg:=.one 0) (λi:Nat=>.int (i:Nat)) g (List.range m) λj hj=>by
  obtain⟨b,hb⟩:=h j (zBa.mp hj)
  exact⟨_,b,rfl,hb⟩
theorem tH {call:Nat->List D->Option R}{e:C}{m:Nat}{r:List (Option R)}(f g:Nat->D) (h:∀j:Nat,j<m->∃b,aa call (some (false,f j)::r) e=some (b,g j)) :
  cB call e (none::r) (.one 0) (bx m f)=some (bx m g):=
 fO call (none::r) (e:=e) (tg:=.one 0) f g (List.range m) λj hj=>by
  obtain⟨b,hb⟩:=h j (zBa.mp hj)
  exact⟨_,b,rfl,hb⟩
theorem tE (xs:List D) (a b:Nat) (h:a<=b):fF xs (some (a:Int)) (some (b:Int))=(xs.drop a).take (b - a):=by
 simp only [fF,gI,cutAt]
 rw [Qm (by omega),Qm (by omega)]
 simp only [ma]
 by_cases h1:a<=xs.length
 ·rw [uV h1]
  by_cases h2:b<=xs.length
  ·rw [uV h2]
  ·rw [qD (by omega)]
   rw [uY (by simp),uY (by simp;omega)]
 ·rw [qD (by omega:xs.length<=a),qD (by omega:xs.length<=b)]
  simp [zBt (show xs.length<=a by omega)]
theorem qKY (ns:List Int) (a b:Nat) (h:a<=b):fF (ns.map .int) (some (a:Int)) (some (b:Int))=((ns.drop a).take (b - a)).map .int:=by
 rw [tE _ _ _ h,<-zCj,<-zCk]
section
variable {call:Nat->List D->Option R}{Z:En}
theorem cP {o:COp}{a b:C}{x y:D}{r:Option R}(ha:pk Z a (aa call Z a)=some x) (hb:pk Z b (aa call Z b)=some y) (h:fE o x y=r):aa call Z (.cmp o a b)=r:=by
 rw [ip,ha];simp only;rw [hb];exact h
theorem cG {o:BI}{a:C}{x:D}{r:Option R}(ha:pk Z a (aa call Z a)=some x) (h:cK o [x]=r):aa call Z (.bi o [a])=r:=by
 rw [fJ,eI,ha];exact h
theorem ue {e nl ks tg rs}{r:R}(h:aa call Z (.compS e nl ks tg rs)=some r):pk Z (.compS e nl ks tg rs) (aa call Z (.compS e nl ks tg rs))=some r.2:=by rw [h];rfl
theorem dX {o as}{r:R}(h:aa call Z (.bi o as)=some r):pk Z (.bi o as) (aa call Z (.bi o as))=some r.2:=by rw [h];rfl
theorem ft {o as}{r:R}(h:aa call Z (.call o as)=some r):pk Z (.call o as) (aa call Z (.call o as))=some r.2:=by rw [h];rfl
theorem gQ {a b}{r:R}(h:aa call Z (.ix a b)=some r):pk Z (.ix a b) (aa call Z (.ix a b))=some r.2:=by rw [h];rfl
theorem ck {a b:C}{x y:D}{r:Option R}(ha:pk Z a (aa call Z a)=some x) (hb:pk Z b (aa call Z b)=some y) (h:bu x y=r):aa call Z (.ix a b)=r:=by
 rw [eS,ha];simp only;rw [hb];exact h
theorem qQH {a b:C}{x:Bool}(ha:aa call Z a=some (x,.bl false)):aa call Z (.and a b)=some (false,.bl false):=by
 rw [w6,ha];rfl
theorem sh {a b:C}{x:Bool}{r:Option R}(ha:aa call Z a=some (x,.bl true)) (hb:aa call Z b=r):aa call Z (.and a b)=r:=by
 rw [w6,ha];exact hb
theorem oO {a b:C}{x y:Bool}{p q:Bool}(ha:aa call Z a=some (x,.bl p)) (hb:aa call Z b=some (false,.bl q)):aa call Z (.and a b)=some (false,.bl (p&&q)):=by
 cases p with
 | true=>exact sh ha hb
 | false=>exact qQH ha
theorem qN9 {e:C}{nl:Nat}{ks:List Nat}{tg:Tg}{a b:C}{x y:R}{xs ys zs:List D}{Z':En}(ha:aa call Z a=some x) (hb:aa call Z b=some y) (hx:i4 x.2=some xs) (hy:oy y.2=some ys) (hc:bg Z nl ks=Z') (hf:cB call e Z' tg (bN xs ys)=some zs):aa call Z (.compZ e nl ks tg a b)=some (true,.lst zs):=by
 subst hc
 rw [qJz,ha];simp only;rw [hb];simp only;rw [hx];simp only;rw [hy];simp only;rw [hf]
end
section
variable {call:Nat->List D->Option R}{Z:En}{rest:List S}{z:Option Ou}
theorem jO {m:Nat}(hs:m<=10000):jy [.int (m:Int)]=some ((List.range m).map λi=>.int (i:Nat)):=qPu m hs
end
theorem sQ (l j:Nat) (h:j<l):ixN l (j:Int)=some j:=by
 unfold ixN;rw [Ql (by omega),Ql (by omega)];simp
end Dw.T
namespace Dw.T
open Dw PySem
abbrev Q4:=Int×Int×Int×Int
def q4 (q:Q4):D:=.tup [.int q.1,.int q.2.1,.int q.2.2.1,.int q.2.2.2]
theorem kJ (a b:Int) (h:a.natAbs<2^64):h9 a b=true:=Qk (.inr (.inl h))
theorem kK (a b:Int) (h:b.natAbs<2^64):h9 a b=true:=Qk (.inr (.inr (.inl h)))
theorem ro (a b:Int) (h:a.natAbs<2^240) (h':b.natAbs<2^240):h9 a b=true:=Qk (.inl ⟨h,h'⟩)
theorem qTB (a b:Int) (h:a.natAbs<iX) (h':b.natAbs<iX):h9 a b=true:=Qk (.inr (.inr (.inr ⟨h,h'⟩)))
theorem qMm:iX=iZ * 2^64:=by unfold iX iZ;rw [<-Nat.pow_add]
theorem qN0:2^200<=iZ:=uW (by decide) (by decide)
theorem jx (b:Int) (h0:b≠0) (h:b.natAbs<2^240):aT b=true:=Qk ⟨h0,.inl h⟩
theorem dH (a m:Int) (h:0<m):0<=a.fmod m/\a.fmod m<m:=by
 rw [zBe _ (by omega:0<=m)]
 exact⟨Int.emod_nonneg _ (by omega),Int.emod_lt_of_pos _ h⟩
section
variable {call:Nat->List D->Option R}
theorem qO2 (ns:List Int) (k:Nat):ak call [zF (.lst (ns.map .int)),zF (.int (k:Int))] f_law_cell_at.body=some (.rt (false,.int (fk ns k))):=by
 by_cases h:k<ns.length
 ·have h1:decide ((k:Int)<((ns.length:Nat):Int))=true:=Qk (by omega)
  refine eQ (x:=false) (r:=(false,.int (fk ns k))) (by simp only [ip,pk,ao,aZ,ba,aX,aY,aL,fJ,eI,gh,fM,qE,aR,yc,h1]) ?_ rfl
  refine aE (r:=(false,.int (fk ns k))) (ck rfl rfl ?_) rfl
  rw [oV]
  unfold gB iS
  rw [qE,sQ _ _ h]
  simp [fk,h]
 ·have h1:decide ((k:Int)<((ns.length:Nat):Int))=false:=Qj (by omega)
  have e:fk ns k=0:=by simp [fk,List.getElem?_eq_none (Nat.le_of_not_lt h)]
  refine bJ (x:=false) (by simp only [ip,pk,ao,aZ,ba,aX,aY,aL,fJ,eI,gh,fM,qE,aR,yc,h1]) ?_
  rw [e]
  exact aE (r:=(false,.int 0)) rfl rfl
end
theorem uK (q:Q4):bu (q4 q) (.int 0)=zF (.int q.1):=rfl
theorem uJ (q:Q4):bu (q4 q) (.int 1)=zF (.int q.2.1):=rfl
theorem uI (q:Q4):bu (q4 q) (.int 2)=zF (.int q.2.2.1):=rfl
theorem AJ (q:Q4):bu (q4 q) (.int 3)=zF (.int q.2.2.2):=rfl
theorem xp {a b A B:Int}(h:-A<=a/\a<=A) (h':0<=b/\b<=B) (hA:0<=A):-(A * B)<=a * b/\a * b<=A * B:=by
 have h1:a * b<=A * b:=uX h.2 h'.1
 have h2:(-A) * b<=a * b:=uX h.1 h'.1
 have h3:A * b<=A * B:=Int.mul_le_mul_of_nonneg_left h'.2 hA
 rw [Int.neg_mul] at h2
 omega
abbrev Fr:=Nat->Q4
def cW (m:Nat) (c:Fr):D:=.tup (bx m λj=>q4 (c j))
noncomputable def qA (c:Fr) (t:Int) (j:Nat):P2:=((c j).1+(c j).2.2.1 * t,(c j).2.1+(c j).2.2.2 * t)
def qC (q:Q4):Prop:=(-(10^31)<=q.1/\q.1<=10^31)/\(-(10^31)<=q.2.1/\q.2.1<=10^31)/\(-(10^15)<=q.2.2.1/\q.2.2.1<=10^15)/\(-(10^15)<=q.2.2.2/\q.2.2.2<=10^15)
def eN (c:Fr):Prop:=∀j,qC (c j)
def gp (p q:P2):Int:=max (max 0 (p.1 - q.2)) (q.1 - p.2)
def aP (m:Nat) (g f:Nat->P2):Int:=((List.range m).map λj=>gp (g j) (f j) * gp (g j) (f j)).sum
theorem qO8 (m:Nat) (p:Nat->Int):cK .sum [.lst (bx m λj=>.int (p j))]=zF (.int ((List.range m).map p).sum):=by
 rw [xT,show (bx m λj=>D.int (p j))=(List.range m).map λj=>.int (p j) from rfl,uq]
 rfl
def dP (q:P2):Prop:=(-(10^33)<=q.1/\q.1<=10^33)/\(-(10^33)<=q.2/\q.2<=10^33)
theorem ic {c:Fr}(hc:eN c) {t:Int}(ht:0<=t/\t<=10^15) (j:Nat):dP (qA c t j):=by
 have h:=hc j
 unfold qC at h
 have h1:=xp (A:=10^15) (B:=10^15) h.2.2.1 ht (by decide)
 have h2:=xp (A:=10^15) (B:=10^15) h.2.2.2 ht (by decide)
 show (-(10^33)<=(c j).1+(c j).2.2.1 * t/\(c j).1+(c j).2.2.1 * t<=10^33)/\(-(10^33)<=(c j).2.1+(c j).2.2.2 * t/\(c j).2.1+(c j).2.2.2 * t<=10^33)
 omega
theorem wz {p q:P2}(hp:dP p) (hq:dP q):(gp p q).natAbs<2^200:=by
 unfold dP at hp hq
 unfold gp
 omega
section
variable {call:Nat->List D->Option R}
theorem qTc (p q:P2):ak call [zF (side p),zF (side q)] f_side_gap.body=some (.rt (false,.int (gp p q))):=
 aE (by simp only [eM,fJ,eI,pk,bp,aR,aN,eS,ao,ba,aX,aY,aL,xm,aZ,xn,lF,gh,yU];rfl) rfl
end
section
variable {call:Nat->List D->Option R}
theorem qTf (m:Nat) (g f:Nat->P2) (hg:∀j,dP (g j)) (hf:∀j,dP (f j)) (C3:∀p q,call 0 [side p,side q]=zF (.int (gp p q))):ak call [zF (bE m g),zF (bE m f),none] f_box_gap.body=some (.rt (false,.int (aP m g f))):=by
 have hc:=qN9 (call:=call) (Z:=[zF (bE m g),zF (bE m f),none]) (e:=(.call 0 [V0,V1])) (nl:=2) (ks:=[]) (a:=.v 0) (b:=.v 1) rfl rfl (qJ5 m g) rfl rfl
  (qK1 (F:=λj=>side (g j)) (G:=λj=>side (f j)) (λj=>.int (gp (g j) (f j))) λj hj=>⟨false,by have:=C3 (g j) (f j);simp [this]⟩)
 refine au _ hc ?_
 have hd:=gT (call:=call) (Z:=[zF (bE m g),zF (bE m f),zF (.lst (bx m λj=>.int (gp (g j) (f j))))]) (e:=(.bin .mul V0 V0)) (nl:=1) (ks:=[]) (src:=.v 2) rfl rfl rfl
  (tH (λj=>.int (gp (g j) (f j))) (λj=>.int (gp (g j) (f j) * gp (g j) (f j))) λj hj=>⟨false,by
   have:=wz (hg j) (hf j)
   have m1:=ro (gp (g j) (f j)) (gp (g j) (f j)) (by omega) (by omega)
   simp [m1]⟩)
 exact aE (cG (ue hd) (qO8 m _)) rfl
end
section
variable {call:Nat->List D->Option R}
theorem qTd (q:Q4) (t:Int) (ht:t.natAbs<2^64):ak call [zF (q4 q),zF (.int t)] f_side_at.body=some (.rt (false,side (q.1+q.2.2.1 * t,q.2.1+q.2.2.2 * t))):=by
 have m1:=kK q.2.2.1 t ht
 have m2:=kK q.2.2.2 t ht
 exact aE (by simp only [eM,jS,gX,aN,pk,eS,ao,ba,aX,aY,aL,bp,aR,uK,uI,aZ,lE,m1,↓reduceIte,ir,uJ,AJ,m2,iM,iC,iB,Nat.reduceAdd,vX];rfl) rfl
end
section
variable {call:Nat->List D->Option R}
theorem qTe (m:Nat) (c:Fr) (t:Int) (C10:∀q:Q4,call 2 [q4 q,.int t]=zF (side (q.1+q.2.2.1 * t,q.2.1+q.2.2.2 * t))):ak call [zF (cW m c),zF (.int t)] f_frame_at.body=some (.rt (false,bE m (qA c t))):=by
 have hc:=gT (call:=call) (Z:=[zF (cW m c),zF (.int t)]) (e:=(.call 2 [V0,V1])) (nl:=1) (ks:=[1]) (src:=.v 0) rfl rfl rfl
  (tH (λj=>q4 (c j)) (λj=>side (qA c t j)) λj hj=>⟨false,by have:=C10 (c j);simp [this];rfl⟩)
 exact aE (cG (ue hc) rfl) rfl
end
theorem take_one {α:Type}{l:List α}{k:Nat}{x:α}(h:l[k]?=some x):l.take (k+1)=l.take k++[x]:=by rw [qJ,h];rfl
theorem si (x:Str) (y:String):fE .eq (.str x) (tx y)=zF (.bl (decide (x=Qa y))):=by
 show some (false,D.bl (x == Qa y))=some (false,_)
 congr 3
section
variable {call:Nat->List D->Option R}
theorem sH {c:C}{body:List S}(I:Nat->En->Prop)
  (st:∀m Z,I m Z->(∃x,aa call Z c=some (x,.bl false))∨∃x,aa call Z c=some (x,.bl true)/\∃Z2,ak call Z body=some (.nx Z2)/\∃m',m'<m/\I m' Z2) :
  ∀fuel m Z,m<fuel->I m Z->∃m' Z',ie (fun Z'=>aa call Z' c) (fun Z'=>ak call Z' body) fuel Z=some (.nx Z')/\I m' Z'/\∃x,aa call Z' c=some (x,.bl false)
 | 0,m,Z,h,_=>by omega
 | fuel+1,m,Z,h,hi=>by
  rcases st m Z hi with ⟨x,e⟩|⟨x,e,Z2,e2,m',hm,hi2⟩
  ·exact⟨m,Z,by show (aa call Z c).bind _=_;rw [e];rfl,hi,x,e⟩
  ·obtain⟨m3,Z',e3,r⟩:=sH I st fuel m' Z2 (by omega) hi2
   refine⟨m3,Z',?_,r⟩
   show (aa call Z c).bind (rJ Z ((ak call Z body).bind (kO (ie _ _ fuel))))=_
   rw [e]
   show (ak call Z body).bind (kO (ie _ _ fuel))=_
   rw [e2]
   exact e3
end
end Dw.T
namespace Dw.T
open Dw PySem
structure Th where
 hd:Int
 sw:Fr
 mr:Int
 wo:Int
structure To where
 cov:Fr
 hrt:Fr
 rest:List D
def ae (m:Nat) (u:Th):D:=.tup [.int u.hd,cW m u.sw,.int u.mr,.int u.wo]
def cU (m:Nat) (o:To):D:=.tup (cW m o.cov::cW m o.hrt::o.rest)
def aO (m:Nat):Option To->D
 | none=>.non
 | some o=>cU m o
inductive Tr where
 | leaf (o:Option To) (ts:List Th)
 | fork (o:Option To) (ps:List Tr)
mutual
noncomputable def und:Tr->List Th
 | .leaf _ ts=>ts
 | .fork _ ps=>aA ps
noncomputable def aA:List Tr->List Th
 | []=>[]
 | p::ps=>und p++aA ps
end
mutual
noncomputable def nd:Tr->Nat
 | .leaf _ _=>1
 | .fork _ ps=>bW ps+1
noncomputable def bW:List Tr->Nat
 | []=>0
 | p::ps=>nd p+bW ps
end
mutual
noncomputable def hg:Tr->Nat
 | .leaf _ _=>0
 | .fork _ ps=>j7 ps+1
noncomputable def j7:List Tr->Nat
 | []=>0
 | p::ps=>max (hg p) (j7 ps)
end
mutual
def ah (m:Nat):Tr->D
 | .leaf o ts=>.tup [tx "leaf",aO m o,.tup (ts.map (ae m))]
 | .fork o ps=>.tup [tx "fork",aO m o,.tup (hU m ps)]
def hU (m:Nat):List Tr->List D
 | []=>[]
 | p::ps=>ah m p::hU m ps
end
theorem tY (m:Nat):∀ps,hU m ps=ps.map (ah m)
 | []=>rfl
 | p::ps=>by rw [hU,tY m ps];rfl
noncomputable def tl:Tr->Option To
 | .leaf o _=>o
 | .fork o _=>o
noncomputable def aJ:Tr->Bool
 | .leaf _ _=>true
 | .fork _ _=>false
def nq (c h:Q4):Prop:=c.1<=h.1/\h.2.1<=c.2.1/\c.2.2.1<=h.2.2.1/\h.2.2.2<=c.2.2.2
def GO (o:Option To) (ts:List Th):Prop:=match o with
 | none=>ts=[]
 | some o=>eN o.cov/\eN o.hrt/\∀u∈ts,∀j,nq (o.cov j) (u.sw j)/\nq (u.sw j) (o.hrt j)
def mf (u:Th):Prop:=eN u.sw
def lO (o:Option To):Prop:=∀x,o=some x->dv x.rest=true
mutual
def Good:Tr->Prop
 | .leaf o ts=>(GO o ts/\lO o)/\∀u∈ts,mf u
 | .fork o ps=>(GO o (aA ps)/\lO o)/\Goods ps
def Goods:List Tr->Prop
 | []=>True
 | p::ps=>Good p/\Goods ps
end
theorem Goods.mem:∀{ps:List Tr},Goods ps->∀p∈ps,Good p
 | q::ps,h,p,hp=>by
  rw [Goods] at h
  rcases yag.mp hp with rfl|hp
  ·exact h.1
  ·exact h.2.mem p hp
theorem Good.o:∀{p:Tr},Good p->GO (tl p) (und p)
 | .leaf o ts,h=>by rw [Good] at h;rw [und];exact h.1.1
 | .fork o ps,h=>by rw [Good] at h;rw [und];exact h.1.1
theorem Good.nc:∀{p:Tr},Good p->lO (tl p)
 | .leaf o ts,h=>by rw [Good] at h;exact h.1.2
 | .fork o ps,h=>by rw [Good] at h;exact h.1.2
mutual
theorem Good.th:∀{p:Tr},Good p->∀u∈und p,mf u
 | .leaf o ts,h,u,hu=>by rw [Good] at h;rw [und] at hu;exact h.2 u hu
 | .fork o ps,h,u,hu=>by rw [Good] at h;rw [und] at hu;exact Goods.th h.2 u hu
theorem Goods.th:∀{ps:List Tr},Goods ps->∀u∈aA ps,mf u
 | [],_,u,hu=>by rw [aA] at hu;cases hu
 | p::ps,h,u,hu=>by
  rw [Goods] at h
  rw [aA] at hu
  rcases yaA.mp hu with hu|hu
  ·exact Good.th h.1 u hu
  ·exact Goods.th h.2 u hu
end
theorem qSq (p q:P2):0<=gp p q:=by unfold gp;omega
theorem qMT {a b:Int}(h0:0<=a) (h:a<=b):a * a<=b * b:=nK h h h0 (by omega)
theorem zA {f g:Nat->Int}:∀l:List Nat,(∀j∈l,f j<=g j)->(l.map f).sum<=(l.map g).sum
 | [],_=>lS _
 | x::l,h=>by
  rw [cT,cT,g9,g9]
  have h1:=h x bh
  have h2:=zA l λj hj=>h j (bC _ hj)
  omega
def lQ (c b:P2):Prop:=c.1<=b.1/\b.2<=c.2
theorem qSr {c b c' b':P2}(h:lQ c b) (h':lQ c' b'):gp c c'<=gp b b':=by
 unfold lQ at h h'
 unfold gp
 omega
theorem xf (m:Nat) {c b c' b':Nat->P2}(h:∀j,lQ (c j) (b j)) (h':∀j,lQ (c' j) (b' j)):aP m c c'<=aP m b b':=
 zA _ λj _=>qMT (qSq _ _) (qSr (h j) (h' j))
theorem mx {c b:Fr}{t:Int}(ht:0<=t) {j:Nat}(h:nq (c j) (b j)):lQ (qA c t j) (qA b t j):=by
 obtain⟨h1,h2,h3,h4⟩:=h
 have a1:=Int.mul_le_mul_of_nonneg_right h3 ht
 have a2:=Int.mul_le_mul_of_nonneg_right h4 ht
 constructor
 ·show (c j).1+(c j).2.2.1 * t<=(b j).1+(b j).2.2.1 * t
  omega
 ·show (b j).2.1+(b j).2.2.2 * t<=(c j).2.1+(c j).2.2.2 * t
  omega
section
variable (m:Nat) (t far:Int)
def near (a b:Th):Bool:=decide (aP m (qA a.sw t) (qA b.sw t)<=far)
def bH (a:Th) (B:List Th):List (Int×Int):=(B.filter λb=>decide (b.hd≠a.hd)&&near m t far a b).map λb=>(a.hd,b.hd)
def due (A B:List Th):List (Int×Int):=A.flatMap λa=>bH m t far a B
theorem y8 (a:Th) (B C:List Th):bH m t far a (B++C)=bH m t far a B++bH m t far a C:=by unfold bH;rw [List.filter_append,List.map_append]
theorem y9 (A B C:List Th):due m t far (A++B) C=due m t far A C++due m t far B C:=iG
theorem zb:∀A:List Th,due m t far A []=[]
 | []=>rfl
 | a::A=>by show bH m t far a []++due m t far A []=[];rw [zb A];rfl
theorem za:∀(A B C:List Th),(due m t far A (B++C)).Perm (due m t far A B++due m t far A C)
 | [],_,_=>List.Perm.refl _
 | a::A,B,C=>by
  show (bH m t far a (B++C)++due m t far A (B++C)).Perm ((bH m t far a B++due m t far A B)++(bH m t far a C++due m t far A C))
  rw [y8]
  refine (List.Perm.append_left _ (za A B C)).trans ?_
  rw [bw,bw]
  refine List.Perm.append_left _ ?_
  rw [<-bw,<-bw]
  exact List.Perm.append_right _ List.perm_append_comm
theorem zc:∀(A:List Th) (qs:List Tr),(due m t far A (aA qs)).Perm (qs.flatMap λq=>due m t far A (und q))
 | A,[]=>by rw [aA,zb];exact List.Perm.refl _
 | A,q::qs=>by
  rw [aA,fY]
  exact (za m t far A _ _).trans (List.Perm.append_left _ (zc A qs))
theorem wN (B:List Th):∀ps:List Tr,due m t far (aA ps) B=ps.flatMap λp=>due m t far (und p) B
 | []=>by rw [aA];rfl
 | p::ps=>by rw [aA,y9,wN B ps,fY]
def word:Option To->Option To->Str
 | some a,some b=>if aP m (qA a.cov t) (qA b.cov t) > far then Qa "apart" else if aP m (qA a.hrt t) (qA b.hrt t)<=far then Qa "whole" else Qa "open"
 | _,_=>Qa "apart"
noncomputable def iW (A B:List Th):List (Int×Int):=A.flatMap λa=>(B.filter λb=>decide (b.hd≠a.hd)).map λb=>(a.hd,b.hd)
theorem qIS {a b:Option To}{A B:List Th}(ht:0<=t) (ha:GO a A) (hb:GO b B) (h:word m t far a b=Qa "apart"):due m t far A B=[]:=by
 unfold due
 rw [List.flatMap_eq_nil_iff]
 intro u hu
 unfold bH
 rw [List.map_eq_nil_iff,List.filter_eq_nil_iff]
 intro v hv
 cases a with
 | none=>have ha:A=[]:=ha;rw [ha] at hu;cases hu
 | some a =>
  cases b with
  | none=>have hb:B=[]:=hb;rw [hb] at hv;cases hv
  | some b =>
   have hg:aP m (qA a.cov t) (qA b.cov t) > far:=by
    have h:(if aP m (qA a.cov t) (qA b.cov t) > far then Qa "apart" else if aP m (qA a.hrt t) (qA b.hrt t)<=far then Qa "whole" else Qa "open")=Qa "apart":=h
    split at h
    ·assumption
    ·split at h
     ·exact Qn h (by decide)
     ·exact Qn h (by decide)
   have:=xf m (c:=qA a.cov t) (b:=qA u.sw t) (c':=qA b.cov t) (b':=qA v.sw t) (λj=>mx ht (ha.2.2 u hu j).1) λj=>mx ht (hb.2.2 v hv j).1
   unfold near
   rw [Qj (show ¬aP m (qA u.sw t) (qA v.sw t)<=far by omega),jl]
   exact fZ
theorem qIR {a b:Option To}{A B:List Th}(ht:0<=t) (ha:GO a A) (hb:GO b B) (h:word m t far a b=Qa "whole"):due m t far A B=iW A B:=by
 unfold due iW
 rw [List.flatMap_def,List.flatMap_def]
 congr 1
 refine qL λu hu=>?_
 unfold bH
 congr 1
 refine List.filter_congr λv hv=>?_
 cases a with
 | none=>have ha:A=[]:=ha;rw [ha] at hu;cases hu
 | some a =>
  cases b with
  | none=>have hb:B=[]:=hb;rw [hb] at hv;cases hv
  | some b =>
   have hg:aP m (qA a.hrt t) (qA b.hrt t)<=far:=by
    have h:(if aP m (qA a.cov t) (qA b.cov t) > far then Qa "apart" else if aP m (qA a.hrt t) (qA b.hrt t)<=far then Qa "whole" else Qa "open")=Qa "whole":=h
    split at h
    ·exact Qn h (by decide)
    ·split at h
     ·assumption
     ·exact Qn h (by decide)
   have:=xf m (c:=qA u.sw t) (b:=qA a.hrt t) (c':=qA v.sw t) (b':=qA b.hrt t) (λj=>mx ht (ha.2.2 u hu j).2) λj=>mx ht (hb.2.2 v hv j).2
   unfold near
   rw [Qk (show aP m (qA u.sw t) (qA v.sw t)<=far by omega),jk]
end
end Dw.T
namespace Dw.T
open Dw PySem
theorem je:∀ps qs,aA (ps++qs)=aA ps++aA qs
 | [],qs=>by rw [aA];rfl
 | p::ps,qs=>by rw [qH,aA,aA,je ps qs,bw]
theorem uB (ps:List Tr) (k:Nat):(aA (ps.take k)).length<=(aA ps).length:=by
 have:=je (ps.take k) (ps.drop k)
 rw [gF] at this
 rw [this,bf]
 omega
theorem xh {ps:List Tr}{p:Tr}(h:p∈ps):hg p<=j7 ps:=by
 induction ps with
 | nil=>cases h
 | cons q ps ih =>
  rw [j7]
  rcases yag.mp h with rfl|h
  ·omega
  ·have:=ih h;omega
theorem qMt {ps:List Tr}{p:Tr}{u:Th}(h:p∈ps) (hu:u∈und p):u∈aA ps:=by
 induction ps with
 | nil=>cases h
 | cons q ps ih =>
  rw [aA]
  rcases yag.mp h with rfl|h
  ·exact iH _ hu
  ·exact cM _ (ih h)
theorem kY (p:Tr):1<=nd p:=by cases p<;>simp [nd]
noncomputable def dM (p:List Int):D:=.tup (p.map .int)
theorem qLk (q:List Int) (k:Nat) (h:q.length<=1000):f7 .add (dM q) (.tup [.int (k:Int)])=zF (dM (q++[(k:Int)])):=by
 cases q with
 | nil=>rfl
 | cons x a =>
  show (if (a.map D.int).length+1+1<=lim then zF (D.tup (D.int x::a.map .int++[.int (k:Int)])) else none)=_
  rw [dG] at h
  rw [Ql (cJ (by rw [aC];omega))]
  simp [dM]
def i9 (m:Nat):Tr->List D
 | .leaf _ ts=>ts.map (ae m)
 | .fork _ ps=>ps.map (ah m)
theorem pg0 (m:Nat) (p:Tr):bu (ah m p) (.int 0)=zF (if aJ p then tx "leaf" else tx "fork"):=by cases p<;>rfl
theorem pg1 (m:Nat) (p:Tr):bu (ah m p) (.int 1)=zF (aO m (tl p)):=by cases p<;>rfl
theorem pg2 (m:Nat) (p:Tr):bu (ah m p) (.int 2)=zF (.tup (i9 m p)):=by
 cases p with
 | leaf o ts=>rfl
 | fork o ps =>
  show bu (D.tup [tx "fork",aO m o,.tup (hU m ps)]) (.int 2)=_
  rw [tY]
  rfl
theorem k0 (m:Nat) (p:Tr):∃ds,ah m p=.tup ds:=by cases p<;>exact⟨_,by rw [ah]⟩
theorem fi (m:Nat) (p:Tr) (ds:List D):bX false (ah m p::ds)=zF (ah m p)::bX false ds:=by
 obtain⟨xs,e⟩:=k0 m p
 rw [e]
 rfl
theorem kF (m:Nat) (o:Option To) (ds:List D):bX false (aO m o::ds)=zF (aO m o)::bX false ds:=by cases o<;>rfl
theorem qo (a b:Int):fE .ne (.int a) (.int b)=zF (.bl (decide (a≠b))):=by
 show zF (D.bl (!(a == b)))=_
 by_cases h:a=b<;>simp [h]
theorem AR (a b:Int):fE .le (.int a) (.int b)=zF (.bl (decide (a<=b))):=rfl
section
variable {call:Nat->List D->Option R}
theorem fP {Z:En}{f:Nat}{as:List C}{r:R}(h:aa call Z (.call f as)=some r):ag Z (.call f as) (aa call Z (.call f as))=some r.2:=by rw [h];rfl
theorem gS {Z:En}{f:Nat}{a b:C}{x y:D}{r:Option R}(ha:ag Z a (aa call Z a)=some x) (hb:ag Z b (aa call Z b)=some y) (hc:call f [x,y]=r):aa call Z (.call f [a,b])=r:=by
 rw [mP,jT,ha,bL,jT,hb]
 exact hc
theorem qJP (m:Nat) (p:Tr):ak call [zF (ah m p)] f_is_leaf.body=some (.rt (false,.bl (aJ p))):=by
 refine aE (cP (gQ (ck rfl rfl (pg0 m p))) rfl ?_) rfl
 cases p<;>rfl
theorem qME (m:Nat) (p:Tr):ak call [zF (ah m p)] f_page_told.body=some (.rt (false,aO m (tl p))):=aE (ck rfl rfl (pg1 m p)) rfl
theorem qJL (m:Nat) (p:Tr):ak call [zF (ah m p)] f_page_parts.body=some (.rt (false,.tup (i9 m p))):=aE (ck rfl rfl (pg2 m p)) rfl
theorem wX (m:Nat) (p:Tr) (hl:(und p).length<=1000) (C22:call 9 [ah m p]=zF (.bl (aJ p))) (C24:call 11 [ah m p]=zF (.tup (i9 m p))) (C29:∀q,hg q<hg p->(und q).length<=1000->call 12 [ah m q]=zF (.tup ((und q).map (ae m)))) :
  ak call [zF (ah m p),none,none] f_things_in.body=some (.rt (false,.tup ((und p).map (ae m)))):=by
 cases p with
 | leaf o ts=>exact eQ C22 (aE C24 rfl) rfl
 | fork o ps =>
  have hl:(aA ps).length<=1000:=by rw [und] at hl;exact hl
  obtain⟨Z',h,o2,rfl⟩:=iq (call:=call) (tg:=.one 2) (body:=AB)
   (λk Z=>∃(o2:Option R),Z=[zF (ah m (.fork o ps)),zT (.lst ((aA (ps.take k)).map (ae m))),o2]) (ps.map (ah m)) 0
   [zF (ah m (.fork o ps)),zT (.lst []),none] ⟨none,rfl⟩ (by
    rintro k d Z hk ⟨o2,rfl⟩
    rw [cu] at hk
    obtain⟨q,hq,rfl⟩:=yad.mp hk
    have hm:=cj hq
    have h1:aA (ps.take (0+k+1))=aA (ps.take (0+k))++und q:=by rw [cZ,take_one hq,je];simp [aA]
    have h2:=uB ps (0+k+1)
    rw [h1,bf] at h2
    have hb:=C29 q (by have:=xh hm;rw [hg];omega) (by omega)
    refine⟨_,_,rfl,?_,zF (ah m q),rfl⟩
    rw [h1,List.map_append]
    rw [eD,sO,show aa call _ (.call 12 [.v 2])=zF (.tup ((und q).map (ae m))) from by simp [hb],bL]
    show ((if _+_<=lim then _ else _):Option Ou).bind _=_
    rw [Ql (cJ (by rw [aC,aC];omega))]
    rfl)
  rw [aC,cZ,dF (ar _)] at h
  refine bJ C22 ?_
  refine au _ rfl ?_
  refine jf C24 rfl h ?_
  exact aE rfl rfl
end
def Bw (m:Nat) (t far:Int):Option To->Option To->Bool
 | some a,some b=>decide (aP m (qA a.cov t) (qA b.cov t) > far)
 | _,_=>true
section
variable {call:Nat->List D->Option R}
theorem qML (m:Nat) (t far:Int) (ht:0<=t/\t<=10^15) (a b:Option To) (ha:∀o,a=some o->eN o.cov) (hb:∀o,b=some o->eN o.cov) (C13:∀o,call 13 [cU m o,.int t]=zF (bE m (qA o.cov t))) (C1:∀f g:Nat->P2,(∀j,dP (f j))->(∀j,dP (g j))->call 1 [bE m f,bE m g]=zF (.int (aP m f g))) :
  ak call [zF (aO m a),zF (aO m b),zF (.int far),zF (.int t)] f_is_apart.body=some (.rt (false,.bl (Bw m t far a b))):=by
 cases a with
 | none=>exact eQ (x:=false) rfl (aE rfl rfl) rfl
 | some a =>
  cases b with
  | none=>exact eQ (x:=false) rfl (aE rfl rfl) rfl
  | some b =>
   refine bJ (x:=false) rfl (aE ?_ rfl)
   have c1:=C13 a
   have c2:=C13 b
   have c3:=C1 (qA a.cov t) (qA b.cov t) (ic (ha a rfl) ht) (ic (hb b rfl) ht)
   show aa call [zF (cU m a),zF (cU m b),zF (.int far),zF (.int t)] (.cmp .gt (.call 1 [(.call 13 [V0,V3]),(.call 13 [V1,V3])]) V2)=_
   have q1:aa call [zF (cU m a),zF (cU m b),zF (.int far),zF (.int t)] (.call 1 [(.call 13 [V0,V3]),(.call 13 [V1,V3])])=zF (.int (aP m (qA a.cov t) (qA b.cov t))):=gS (fP c1) (fP c2) c3
   exact cP (ft q1) rfl rfl
theorem qMC (m:Nat) (t far:Int) (ht:0<=t/\t<=10^15) (a b:To) (ha:eN a.hrt) (hb:eN b.hrt) (C14:∀o,call 14 [cU m o,.int t]=zF (bE m (qA o.hrt t))) (C1:∀f g:Nat->P2,(∀j,dP (f j))->(∀j,dP (g j))->call 1 [bE m f,bE m g]=zF (.int (aP m f g))) :
  ak call [zF (cU m a),zF (cU m b),zF (.int far),zF (.int t)] f_is_whole_near.body=some (.rt (false,.bl (decide (aP m (qA a.hrt t) (qA b.hrt t)<=far)))):=by
 have c1:=C14 a
 have c2:=C14 b
 have c3:=C1 (qA a.hrt t) (qA b.hrt t) (ic ha ht) (ic hb ht)
 have q1:aa call [zF (cU m a),zF (cU m b),zF (.int far),zF (.int t)] (.call 1 [(.call 14 [V0,V3]),(.call 14 [V1,V3])])=zF (.int (aP m (qA a.hrt t) (qA b.hrt t))):=gS (fP c1) (fP c2) c3
 exact aE (cP (ft q1) rfl rfl) rfl
theorem qOR (m:Nat) (t far:Int) (a b:Option To) (C22:call 22 [aO m a,aO m b,.int far,.int t]=zF (.bl (Bw m t far a b)))
  (C23:∀x y,a=some x->b=some y->call 23 [cU m x,cU m y,.int far,.int t]=zF (.bl (decide (aP m (qA x.hrt t) (qA y.hrt t)<=far)))) :
  ak call [zF (aO m a),zF (aO m b),zF (.int far),zF (.int t)] f_pairs_word.body=some (.rt (false,.str (word m t far a b))):=by
 cases a with
 | none=>exact eQ C22 (aE rfl rfl) rfl
 | some a =>
  cases b with
  | none=>exact eQ C22 (aE rfl rfl) rfl
  | some b =>
   have qp:=C23 a b rfl rfl
   show _=some (Ou.rt (false,D.str (if aP m (qA a.cov t) (qA b.cov t) > far then Qa "apart" else if aP m (qA a.hrt t) (qA b.hrt t)<=far then Qa "whole" else Qa "open")))
   by_cases h:aP m (qA a.cov t) (qA b.cov t) > far
   ·rw [Ql h]
    have C22:call 22 [aO m (some a),aO m (some b),.int far,.int t]=zF (.bl true):=by rw [C22];show zF (D.bl (decide _))=_;rw [Qk h]
    exact eQ C22 (aE rfl rfl) rfl
   ·rw [Qm h]
    have C22:call 22 [aO m (some a),aO m (some b),.int far,.int t]=zF (.bl false):=by rw [C22];show zF (D.bl (decide _))=_;rw [Qj h]
    refine bJ C22 (aE ?_ rfl)
    show aa call [zF (cU m a),zF (cU m b),zF (.int far),zF (.int t)] (.ifx (.call 23 [V0,V1,V2,V3]) (.k (tx "whole")) (.k (tx "open")))=_
    rw [qOJ,show aa call [zF (cU m a),zF (cU m b),zF (.int far),zF (.int t)] (.call 23 [V0,V1,V2,V3])=zF (.bl (decide (aP m (qA a.hrt t) (qA b.hrt t)<=far))) from qp]
    by_cases h2:aP m (qA a.hrt t) (qA b.hrt t)<=far
    ·rw [Qk h2,Ql h2];rfl
    ·rw [Qj h2,Qm h2];rfl
def fT (m:Nat) (t:Int) (u:Th):D:=.tup [.int u.hd,bE m (qA u.sw t)]
theorem qMJ (m:Nat) (t:Int) (ts:List Th) (C4:∀u,call 4 [ae m u]=zF (.int u.hd)) (C6:∀u,call 6 [ae m u,.int t]=zF (bE m (qA u.sw t))) :
  ak call [zF (.tup (ts.map (ae m))),zF (.int t)] f_boxes_of.body=some (.rt (true,.lst (ts.map (fT m t)))):=by
 refine aE (r:=(true,.lst (ts.map (fT m t)))) (gT rfl rfl rfl (fO call _ (ae m) (fT m t) ts λu _=>⟨_,false,rfl,?_⟩)) rfl
 have c4:=C4 u
 have c6:=C6 u
 have q1:aa call [zF (ae m u),zF (.int t)] (.call 4 [V0])=zF (.int u.hd):=c4
 have q2:aa call [zF (ae m u),zF (.int t)] (.call 6 [V0,V1])=zF (bE m (qA u.sw t)):=c6
 show aa call [zF (ae m u),zF (.int t)] (.tup [.call 4 [V0],.call 6 [V0,V1]])=_
 rw [iO,dC,q1,bL,dC,q2]
 rfl
noncomputable def g3 (r:Int×Int×Int):D:=.tup [.int r.1,.int r.2.1,.int r.2.2]
def du (m:Nat) (t:Int) (a:Th) (B:List Th):List (Int×Int×Int):=(B.filter λb=>decide (b.hd≠a.hd)).map λb=>(aP m (qA a.sw t) (qA b.sw t),a.hd,b.hd)
theorem qOZ (m:Nat) (t:Int) (p q:Tr) (hp:aJ p=true) (hq:aJ q=true) (ht:0<=t/\t<=10^15) (gp':∀u∈und p,mf u) (gq:∀u∈und q,mf u) (hl:(und p).length * (und q).length<=100000) (C11:∀p,call 11 [ah m p]=zF (.tup (i9 m p)))
  (C20:∀ts:List Th,call 20 [.tup (ts.map (ae m)),.int t]=zT (.lst (ts.map (fT m t)))) (C1:∀f g:Nat->P2,(∀j,dP (f j))->(∀j,dP (g j))->call 1 [bE m f,bE m g]=zF (.int (aP m f g))) :
  ak call [zF (ah m p),zF (ah m q),zF (.int t),none,none,none,none] f_gaps_of_leaves.body=some (.rt (true,.lst (((und p).flatMap λa=>du m t a (und q)).map g3))):=by
 have ep:i9 m p=(und p).map (ae m):=by cases p with|leaf o ts=>rfl|fork o ps=>cases hp
 have eq:i9 m q=(und q).map (ae m):=by cases q with|leaf o ts=>rfl|fork o ps=>cases hq
 have c1:=C11 p
 have c2:=C11 q
 rw [ep] at c1
 rw [eq] at c2
 generalize und p=A at *
 generalize und q=B at *
 have lenB:∀a,(du m t a B).length<=B.length:=λa=>by unfold du;rw [aC];exact List.length_filter_le _ _
 have lenA:∀l:List Th,(l.flatMap λa=>du m t a B).length<=l.length * B.length:=λl=>by
  induction l with
  | nil=>simp
  | cons a l ih=>rw [fY,bf,dG,nH];have:=lenB a;omega
 refine au (true,.lst (B.map (fT m t))) (gS (fP c2) rfl (C20 B)) ?_
 refine au (true,.lst []) rfl ?_
 obtain⟨Z',h,o5,o6,rfl⟩:=iq (call:=call) (tg:=.two 5 6) (body:=AD)
  (λk Z=>∃(o5 o6:Option R),Z=[zF (ah m p),zF (ah m q),zF (.int t),zF (.lst (B.map (fT m t))),zT (.lst (((A.take k).flatMap λa=>du m t a B).map g3)),o5,o6]) (A.map (fT m t)) 0
  [zF (ah m p),zF (ah m q),zF (.int t),zF (.lst (B.map (fT m t))),zT (.lst []),none,none] ⟨none,none,rfl⟩ (by
   rintro k d Z hk ⟨o5,o6,rfl⟩
   rw [cu] at hk
   obtain⟨a,ha,rfl⟩:=yad.mp hk
   have hm:=cj ha
   have h1:(A.take (0+k+1)).flatMap (λa=>du m t a B)=(A.take (0+k)).flatMap (λa=>du m t a B)++du m t a B:=by rw [cZ,take_one ha,iG];simp
   have h2:=lenA (A.take (0+k))
   have h3:=lenB a
   have h4:(A.take (0+k)).length * B.length<=A.length * B.length:=Nat.mul_le_mul_right _ (by rw [eL];omega)
   have h5:B.length<=100000:=by
    have:1<=A.length:=List.length_pos_iff.mpr (List.ne_nil_of_mem hm)
    have:=Nat.mul_le_mul_right B.length this
    omega
   refine⟨[zF (ah m p),zF (ah m q),zF (.int t),zF (.lst (B.map (fT m t))),zT (.lst (((A.take (0+k)).flatMap λa=>du m t a B).map g3)),zF (.int a.hd),zF (bE m (qA a.sw t))],_,rfl,?_,zF (.int a.hd),zF (bE m (qA a.sw t)),rfl⟩
   rw [h1,List.map_append]
   refine k6 (ys:=(du m t a B).map g3) ?_ rfl (cJ (by rw [aC,aC];omega)) rfl
   rw [pV]
   show (iN call (.cmp .ne (.ix V0 (kI 0)) V2) (.tup [(.call 1 [V1,(.ix V0 (kI 1))]),V2,(.ix V0 (kI 0))]) [none,zF (bE m (qA a.sw t)),zF (.int a.hd)] (.one 0) (B.map (fT m t))).bind _=_
   rw [qf (fT m t) (λb=>g3 (aP m (qA a.sw t) (qA b.sw t),a.hd,b.hd)) (λb=>decide (b.hd≠a.hd)) B λb hb=>⟨_,rfl,cP (gQ (r:=(false,.int b.hd)) (ck rfl rfl rfl)) rfl (qo _ _),λ_=>⟨false,?_⟩⟩]
   ·unfold du
    rw [List.map_map]
    rfl
   ·have c3:=C1 (qA a.sw t) (qA b.sw t) (ic (gp' a hm) ht) (ic (gq b hb) ht)
    have q1:aa call [zF (fT m t b),zF (bE m (qA a.sw t)),zF (.int a.hd)] (.call 1 [V1,(.ix V0 (kI 1))])=zF (.int (aP m (qA a.sw t) (qA b.sw t))):=c3
    show aa call [zF (fT m t b),zF (bE m (qA a.sw t)),zF (.int a.hd)] (.tup [(.call 1 [V1,(.ix V0 (kI 1))]),V2,(.ix V0 (kI 0))])=_
    rw [iO,dC,q1,bL]
    rfl)
 rw [aC,cZ,dF (ar _)] at h
 refine jf (gS (fP c1) rfl (C20 A)) rfl h ?_
 exact aE rfl rfl
end
end Dw.T
namespace Dw.T
open Dw PySem
abbrev Pp:=List Int×Tr
abbrev Pl:=Pp×Pp
def gn (m:Nat) (x:Pp):D:=.tup [dM x.1,ah m x.2]
def aF (m:Nat) (x:Pl):D:=.tup [dM x.1.1,ah m x.1.2,dM x.2.1,ah m x.2.2]
noncomputable def prt (x:Pp):List Pp:=match x.2 with
 | .leaf o ts=>[x]
 | .fork _ ps=>(ps.zipIdx 0).map λy=>(x.1++[(y.2:Int)],y.1)
def behind (x:Pl):List Pl:=if aJ x.1.2=true/\aJ x.2.2=true then [] else (prt x.1).flatMap λa=>(prt x.2).map λb=>(a,b)
theorem zd (f:Tr->D):∀(ps:List Tr) (a:Nat),fm a (ps.map f)=(ps.zipIdx a).map λx=>.tup [.int (x.2:Int),f x.1]
 | [],a=>rfl
 | p::ps,a=>by rw [cT,fm,zd f ps (a+1)];rfl
theorem Ac {α β:Type}{f g:α->List β}:∀l:List α,(∀x∈l,(f x).Perm (g x))->(l.flatMap f).Perm (l.flatMap g)
 | [],_=>List.Perm.refl _
 | x::l,h=>by
  rw [fY,fY]
  exact (h x bh).append (Ac l λy hy=>h y (bC _ hy))
theorem tV {β:Type}(f:Tr->List β):∀(ps:List Tr) (a:Nat),((ps.zipIdx a).flatMap λy=>f y.1)=ps.flatMap f
 | [],_=>rfl
 | p::ps,a=>by rw [nO,fY,fY,tV f ps (a+1)]
theorem zq (f:Tr->Nat):∀(ps:List Tr) (a:Nat),((ps.zipIdx a).map λy=>f y.1).sum=(ps.map f).sum
 | [],_=>rfl
 | p::ps,a=>by rw [nO,cT,cT,g9,g9,zq f ps (a+1)]
theorem qMg {ps:List Tr}{a:Nat}{y:Tr×Nat}(h:y∈ps.zipIdx a):y.1∈ps:=by
 obtain⟨p,k⟩:=y
 exact (List.mem_zipIdx h).2.2▸iF _
theorem yT:∀ps:List Tr,bW ps=(ps.map nd).sum
 | []=>by rw [bW];rfl
 | p::ps=>by rw [bW,yT ps,cT,g9]
section
variable (m:Nat) (t far:Int)
def fG (x:Pl):List (Int×Int):=due m t far (und x.1.2) (und x.2.2)
theorem qTz (x:Pp) (B:List Th):(prt x).flatMap (λa=>due m t far (und a.2) B)=due m t far (und x.2) B:=by
 obtain⟨q,p⟩:=x
 cases p with
 | leaf o ts=>simp [prt]
 | fork o ps =>
  show ((ps.zipIdx 0).map λy=>((q++[(y.2:Int)],y.1):Pp)).flatMap _=_
  rw [List.flatMap_map,und,wN]
  exact tV (λp=>due m t far (und p) B) ps 0
theorem qTy (x:Pp) (A:List Th):((prt x).flatMap λb=>due m t far A (und b.2)).Perm (due m t far A (und x.2)):=by
 obtain⟨q,p⟩:=x
 cases p with
 | leaf o ts=>simp [prt]
 | fork o ps =>
  show (((ps.zipIdx 0).map λy=>((q++[(y.2:Int)],y.1):Pp)).flatMap _).Perm _
  rw [List.flatMap_map,und]
  rw [show ((ps.zipIdx 0).flatMap λy=>due m t far A (und (((q++[(y.2:Int)],y.1):Pp)).2))=ps.flatMap λp=>due m t far A (und p) from tV (λp=>due m t far A (und p)) ps 0]
  exact (zc m t far A ps).symm
theorem qGX (x:Pl) (h:¬(aJ x.1.2=true/\aJ x.2.2=true)):((behind x).flatMap (fG m t far)).Perm (fG m t far x):=by
 unfold behind
 rw [Qm h,List.flatMap_assoc]
 unfold fG
 rw [<-qTz m t far x.1 (und x.2.2)]
 refine Ac _ λa _=>?_
 rw [List.flatMap_map]
 exact qTy m t far x.2 (und a.2)
def W (x:Pl):Str:=word m t far (tl x.1.2) (tl x.2.2)
def dO (r:Pl×Str):List (Int×Int):=if r.2=Qa "whole" then iW (und r.1.1.2) (und r.1.2.2) else if r.2=Qa "open"/\aJ r.1.1.2=true/\aJ r.1.2.2=true then fG m t far r.1 else []
def iw (x:Pl):List Pl:=if W m t far x=Qa "open" then behind x else []
theorem qMk (a b:Option To):word m t far a b=Qa "apart"∨word m t far a b=Qa "whole"∨word m t far a b=Qa "open":=by
 cases a with
 | none=>exact .inl rfl
 | some a =>
  cases b with
  | none=>exact .inl rfl
  | some b =>
   show (if _ then _ else _)=_∨(if _ then _ else _)=_∨(if _ then _ else _)=_
   split
   ·exact .inl rfl
   ·split
    ·exact .inr (.inl rfl)
    ·exact .inr (.inr rfl)
theorem qK0 (ht:0<=t) (x:Pl) (h1:Good x.1.2) (h2:Good x.2.2):(dO m t far (x,W m t far x)++(iw m t far x).flatMap (fG m t far)).Perm (fG m t far x):=by
 unfold dO iw
 dsimp only
 rcases qMk m t far (tl x.1.2) (tl x.2.2) with e|e|e
 ·have e':W m t far x=Qa "apart":=e
  rw [e',Qm (by decide),Qm (λz=>Qn z.1 (by decide)),Qm (by decide)]
  have:=qIS m t far ht h1.o h2.o e
  show List.Perm [] _
  unfold fG
  rw [this]
 ·have e':W m t far x=Qa "whole":=e
  rw [e',Ql rfl,Qm (by decide),List.flatMap_nil,cL]
  unfold fG
  rw [qIR m t far ht h1.o h2.o e]
 ·have e':W m t far x=Qa "open":=e
  rw [e',Qm (by decide),Ql rfl]
  by_cases hl:aJ x.1.2=true/\aJ x.2.2=true
  ·rw [Ql ⟨rfl,hl⟩]
   unfold behind
   rw [Ql hl,List.flatMap_nil,cL]
  ·rw [Qm (λz=>hl z.2),iE]
   exact qGX m t far x hl
def wt (x:Pl):Nat:=nd x.1.2 * nd x.2.2
def ms (l:List Pl):Nat:=(l.map wt).sum
theorem sA (a b:List Pl):ms (a++b)=ms a+ms b:=by unfold ms;rw [List.map_append,List.sum_append]
theorem sI (x:Pl):1<=wt x:=Nat.mul_pos (kY _) (kY _)
theorem mK:∀l:List Pl,l.length<=ms l
 | []=>ar _
 | x::l=>by
  have:=mK l
  have:=sI x
  show l.length+1<=((x::l).map wt).sum
  rw [cT,g9]
  unfold ms at *
  omega
def pw (x:Pp):Nat:=((prt x).map λa=>nd a.2).sum
theorem wB (x:Pp):pw x<=nd x.2/\(aJ x.2=false->pw x<nd x.2):=by
 obtain⟨q,p⟩:=x
 cases p with
 | leaf o ts=>exact⟨by simp [pw,prt],λz=>by cases z⟩
 | fork o ps =>
  have:pw (q,.fork o ps)=bW ps:=by
   show (((ps.zipIdx 0).map λy=>((q++[(y.2:Int)],y.1):Pp)).map λa=>nd a.2).sum=_
   rw [List.map_map,yT]
   exact zq nd ps 0
  rw [this]
  show bW ps<=nd (.fork o ps)/\(_->bW ps<nd (.fork o ps))
  rw [nd]
  exact⟨by omega,λ_=>by omega⟩
theorem yC (c:Nat):∀l:List Nat,(l.map λx=>c * x).sum=c * l.sum
 | []=>rfl
 | x::l=>by rw [cT,g9,g9,yC c l,Nat.mul_add]
theorem yR:∀(l k:List Pp),ms (l.flatMap λa=>k.map λb=>(a,b))=(l.map λa=>nd a.2).sum * (k.map λa=>nd a.2).sum
 | [],k=>by simp [ms]
 | a::l,k=>by
  rw [fY,sA,yR l k,cT,g9,Nat.add_mul]
  congr 1
  unfold ms
  rw [List.map_map]
  have:=yC (nd a.2) (k.map λb=>nd b.2)
  rw [List.map_map] at this
  exact this
theorem pW (x:Pl):ms (behind x)<wt x:=by
 unfold behind
 by_cases hl:aJ x.1.2=true/\aJ x.2.2=true
 ·rw [Ql hl]
  exact sI x
 ·rw [Qm hl,yR]
  show pw x.1 * pw x.2<nd x.1.2 * nd x.2.2
  obtain⟨a1,a2⟩:=wB x.1
  obtain⟨b1,b2⟩:=wB x.2
  have n1:=kY x.1.2
  have n2:=kY x.2.2
  rcases Bool.eq_false_or_eq_true (aJ x.1.2) with e1|e1
  ·have e2:aJ x.2.2=false:=by cases e:aJ x.2.2 with|false=>rfl|true=>exact Qn ⟨e1,e⟩ hl
   exact Nat.lt_of_le_of_lt (Nat.mul_le_mul_right _ a1) (Nat.mul_lt_mul_of_pos_left (b2 e2) (by omega))
  ·exact bG (Nat.lt_of_le_of_lt (Nat.mul_le_mul_left _ b1) (Nat.mul_lt_mul_of_pos_right (a2 e1) (by omega))) (ar _)
theorem qQc (x:Pl):ms (iw m t far x)<wt x:=by
 unfold iw
 split
 ·exact pW x
 ·exact sI x
end
structure PpOk (x:Pp):Prop where
 good:Good x.2
 path:x.1.length+hg x.2<=1000
 high:hg x.2<=8
 few:(und x.2).length<=100
theorem qMu {ps:List Tr}{p:Tr}(h:p∈ps):(und p).length<=(aA ps).length:=by
 induction ps with
 | nil=>cases h
 | cons q ps ih =>
  rw [aA,bf]
  rcases yag.mp h with rfl|h
  ·omega
  ·have:=ih h;omega
theorem PpOk.prt {x:Pp}(h:PpOk x):∀y∈prt x,PpOk y:=by
 obtain⟨q,p⟩:=x
 obtain⟨h1,h2,h3,h4⟩:=h
 cases p with
 | leaf o ts=>intro y hy;rw [yaB.mp hy];exact⟨h1,h2,h3,h4⟩
 | fork o ps =>
  intro y hy
  have hy:y∈(ps.zipIdx 0).map λz=>((q++[(z.2:Int)],z.1):Pp):=hy
  obtain⟨z,hz,rfl⟩:=yaN.mp hy
  have hm:=qMg hz
  have hh:=xh hm
  dsimp only at h1 h2 h3 h4
  rw [Good] at h1
  rw [hg] at h2 h3
  rw [und] at h4
  have:=qMu hm
  exact⟨h1.2.mem _ hm,by show (q++[(z.2:Int)]).length+hg z.1<=1000;rw [bf,qM];omega,by show hg z.1<=8;omega,by show (und z.1).length<=100;omega⟩
def PlOk (x:Pl):Prop:=PpOk x.1/\PpOk x.2
theorem PlOk.behind {x:Pl}(h:PlOk x):∀y∈behind x,PlOk y:=by
 intro y hy
 unfold Dw.T.behind at hy
 split at hy
 ·cases hy
 ·obtain⟨a,ha,hy⟩:=List.mem_flatMap.mp hy
  obtain⟨b,hb,rfl⟩:=yaN.mp hy
  exact⟨h.1.prt a ha,h.2.prt b hb⟩
end Dw.T
namespace Dw.T
open Dw PySem
theorem mR:∀ds:List D,dv ds=true↔∀d∈ds,bO d=true
 | []=>⟨λ_ _ h=>(nomatch h),λ_=>rfl⟩
 | d::ds=>by
  show (bO d&&dv ds)=true↔_
  rw [aI,mR ds]
  simp
theorem sD (m:Nat) (c:Fr):bO (cW m c)=true:=(mR _).mpr λd hd=>by
 obtain⟨j,_,rfl⟩:=yaN.mp hd
 rfl
theorem oN (m:Nat) (o:Option To) (h:lO o):bO (aO m o)=true:=by
 cases o with
 | none=>rfl
 | some o =>
  show (bO (cW m o.cov)&&(bO (cW m o.hrt)&&dv o.rest))=true
  rw [sD,sD,h o rfl]
  rfl
section
variable {call:Nat->List D->Option R}
theorem qMG (m:Nat) (x:Pp) (hx:x.1.length<=1000) (hn:nd x.2<=100000) (C9:call 9 [ah m x.2]=zF (.bl (aJ x.2))) (C11:call 11 [ah m x.2]=zF (.tup (i9 m x.2))):ak call [zF (dM x.1),zF (ah m x.2)] f_parts_or_itself.body=some (.rt (true,.lst ((prt x).map (gn m)))):=by
 obtain⟨q,p⟩:=x
 cases p with
 | leaf o ts=>exact eQ C9 (aE rfl rfl) rfl
 | fork o ps =>
  refine bJ C9 (aE ?_ rfl)
  show aa call [zF (dM q),zF (ah m (.fork o ps))] (.compE (.tup [(.bin .add V2 (.tup [V0])),V1]) 2 [0] (.two 0 1) (.call 11 [V1]))=zT (.lst (((ps.zipIdx 0).map λy=>((q++[(y.2:Int)],y.1):Pp)).map (gn m)))
  rw [zV,show aa call [zF (dM q),zF (ah m (.fork o ps))] (.call 11 [V1])=zF (.tup (ps.map (ah m))) from C11,bL]
  show (cB call (.tup [(.bin .add V2 (.tup [V0])),V1]) [none,none,zF (dM q)] (.two 0 1) (fm 0 (ps.map (ah m)))).bind _=_
  rw [zd,fO call _ (λx:Tr×Nat=>D.tup [.int (x.2:Int),ah m x.1]) (λx=>gn m (q++[(x.2:Int)],x.1)) (ps.zipIdx 0) λy _=>⟨[zF (.int (y.2:Int)),zF (ah m y.1),zF (dM q)],false,rfl,?_⟩]
  ·rw [List.map_map]
   rfl
  ·have ha:=qLk q y.2 hx
   simp only [jS,gX,aN,pk,ao,ba,aZ,aY,aX,aL,vS,iM,iC,iB,Nat.reduceAdd,qTC,vX,↓reduceIte,ha,aR,kP]
   rfl
theorem qJQ (m:Nat) (x:Pl) (hn:wt x<=100000) (C9:∀p,call 9 [ah m p]=zF (.bl (aJ p))) (C15:∀y:Pp,y=x.1∨y=x.2->call 15 [dM y.1,ah m y.2]=zT (.lst ((prt y).map (gn m)))) :
  ak call [zF (aF m x),none,none,none] f_places_behind.body=some (.rt (true,.lst ((behind x).map (aF m)))):=by
 have hb:ms (behind x)<=100000:=fb (bG (pW x) hn)
 have hb':=aM (mK (behind x)) hb
 have e1:aa call [zF (aF m x),none,none,none] (.and (.call 9 [(.ix V0 (kI 1))]) (.call 9 [(.ix V0 (kI 3))]))=zF (.bl (aJ x.1.2&&aJ x.2.2)):=oO (x:=false) (y:=false) (C9 x.1.2) (C9 x.2.2)
 unfold behind at hb' ⊢
 by_cases hl:aJ x.1.2=true/\aJ x.2.2=true
 ·rw [Ql hl]
  rw [hl.1,hl.2] at e1
  exact eQ e1 (aE rfl rfl) rfl
 ·rw [Qm hl] at hb' ⊢
  have:(aJ x.1.2&&aJ x.2.2)=false:=by cases a:aJ x.1.2<;>cases b:aJ x.2.2<;>first|rfl|exact Qn ⟨a,b⟩ hl
  rw [this] at e1
  refine bJ e1 ?_
  refine au (true,.lst []) rfl ?_
  have c1:=C15 x.1 (.inl rfl)
  have c2:=C15 x.2 (.inr rfl)
  refine au (true,.lst ((prt x.2).map (gn m))) c2 ?_
  generalize prt x.1=A at *
  generalize prt x.2=B at *
  obtain⟨Z',h,o3,rfl⟩:=iq (call:=call) (tg:=.one 3) (body:=AG)
   (λk Z=>∃o3:Option R,Z=[zF (aF m x),zT (.lst (((A.take k).flatMap λa=>B.map λb=>((a,b):Pl)).map (aF m))),zF (.lst (B.map (gn m))),o3]) (A.map (gn m)) 0
   [zF (aF m x),zT (.lst []),zF (.lst (B.map (gn m))),none] ⟨none,rfl⟩ (by
    rintro k d Z hk ⟨o3,rfl⟩
    rw [cu] at hk
    obtain⟨a,ha,rfl⟩:=yad.mp hk
    have h1:(A.take (0+k+1)).flatMap (λa=>B.map λb=>((a,b):Pl))=(A.take (0+k)).flatMap (λa=>B.map λb=>((a,b):Pl))++B.map λb=>((a,b):Pl):=by rw [cZ,take_one ha,iG];simp
    have h2:((A.take (0+k+1)).flatMap (λa=>B.map λb=>((a,b):Pl))).length<=(A.flatMap λa=>B.map λb=>((a,b):Pl)).length:=by
     rw [<-gF (0+k+1) A,iG,bf,gF];omega
    rw [h1,bf] at h2
    refine⟨[zF (aF m x),zT (.lst (((A.take (0+k)).flatMap λa=>B.map λb=>((a,b):Pl)).map (aF m))),zF (.lst (B.map (gn m))),zF (gn m a)],_,rfl,?_,zF (gn m a),rfl⟩
    rw [h1,List.map_append]
    refine k6 (ys:=(B.map λb=>((a,b):Pl)).map (aF m)) ?_ rfl (cJ (by rw [aC,aC];omega)) rfl
    rw [List.map_map]
    refine gT rfl rfl rfl (fO call _ (gn m) (aF m ∘ λb=>((a,b):Pl)) B λb _=>⟨_,false,rfl,?_⟩)
    rfl)
  rw [aC,cZ,dF (ar _)] at h
  refine jf c1 rfl h ?_
  exact aE rfl rfl
def aS (m:Nat) (r:Pl×Str):D:=.tup [aF m r.1,.str r.2]
def eX (t far:Int):D:=.obj ⟨CL+42,[]⟩ [.int t,.int far]
structure Wk (m:Nat) (t far:Int) (M:Nat) (A B:List Th) (st:List Pl) (rows:List (Pl×Str)):Prop where
 ok:∀x∈st,PlOk x
 row:∀r∈rows,PlOk r.1
 perm:(rows.flatMap (dO m t far)++st.flatMap (fG m t far)).Perm (due m t far A B)
 few:rows.length+ms st<=M
theorem qOY (m:Nat) (t far:Int) (ht:0<=t) (l r:Tr) (hl:PpOk ([],l)) (hr:PpOk ([],r)) (hM:nd l * nd r<=100000) (C10:∀p,call 10 [ah m p]=zF (aO m (tl p))) (CL1:∀a b:Tr,Good a->Good b->call 42 [aO m (tl a),aO m (tl b),.int t,.int far]=zF (.str (word m t far (tl a) (tl b))))
  (C16:∀x:Pl,PlOk x->wt x<=100000->call 16 [aF m x]=zT (.lst ((behind x).map (aF m)))) :
  ∃rows:List (Pl×Str),(∀x∈rows,PlOk x.1)/\(rows.flatMap (dO m t far)).Perm (due m t far (und l) (und r))/\rows.length<=100000/\ak call [zF (ah m l),zF (ah m r),zF (eX t far),none,none,none,none] f_join_cut.body=some (.rt (true,.lst (rows.map (aS m)))):=by
 have w0:Wk m t far (nd l * nd r) (und l) (und r) [(([],l),([],r))] []:=⟨λx hx=>by rw [yaB.mp hx];exact⟨hl,hr⟩,λr hr=>(nomatch hr),by simp [fG],by show 0+(wt _+0)<=_;show 0+(nd l * nd r+0)<=_;omega⟩
 have loop:=sH (call:=call) (c:=.cmp .gt (.bi .len [V3]) (kI 0)) (body:=Av)
  (λM Z=>∃st rows o5 o6,Z=[zF (ah m l),zF (ah m r),zF (eX t far),zT (.lst ((st.map (aF m)).reverse)),zT (.lst (rows.map (aS m))),o5,o6]/\Wk m t far (nd l * nd r) (und l) (und r) st rows/\ms st=M) (by
   rintro M Z ⟨st,rows,o5,o6,rfl,wk,hms⟩
   have hlen:aa call [zF (ah m l),zF (ah m r),zF (eX t far),zT (.lst ((st.map (aF m)).reverse)),zT (.lst (rows.map (aS m))),o5,o6] (.cmp .gt (.bi .len [V3]) (kI 0))=zF (.bl (decide ((st.length:Int) > 0))):=by
    refine cP (dX (r:=(false,.int (st.length:Int))) (cG rfl ?_)) rfl rfl
    show some (false,D.int ((((st.map (aF m)).reverse).length:Nat):Int))=_
    rw [nQ,aC]
   cases st with
   | nil=>exact .inl ⟨false,by rw [hlen];rfl⟩
   | cons x st =>
    refine .inr ⟨false,by rw [hlen,Qk (by rw [dG];omega)],?_⟩
    have hx:=wk.ok x bh
    have few:=wk.few
    have hms':ms (x::st)=wt x+ms st:=by unfold ms;rw [cT,g9]
    have c10a:=C10 x.1.2
    have c10b:=C10 x.2.2
    have cl:=CL1 x.1.2 x.2.2 hx.1.good hx.2.good
    have qq:=C16 x hx (by rw [hms'] at few;omega)
    have hW:word m t far (tl x.1.2) (tl x.2.2)=W m t far x:=rfl
    rw [hW] at cl
    have hpop:((x::st).map (aF m)).reverse=(st.map (aF m)).reverse++[aF m x]:=by simp
    have mn:=qQc m t far x
    have wk':Wk m t far (nd l * nd r) (und l) (und r) (iw m t far x++st) (rows++[(x,W m t far x)]):=by
     refine⟨λy hy=>?_,λy hy=>?_,?_,?_⟩
     ·rcases yaA.mp hy with hy|hy
      ·unfold iw at hy
       split at hy
       ·exact hx.behind y hy
       ·cases hy
      ·exact wk.ok y (bC _ hy)
     ·rcases yaA.mp hy with hy|hy
      ·exact wk.row y hy
      ·rw [yaB.mp hy];exact hx
     ·refine List.Perm.trans ?_ wk.perm
      rw [iG,iG,fY,fY,List.flatMap_nil,cL,bw]
      refine List.Perm.append_left _ ?_
      rw [<-bw]
      exact List.Perm.append_right _ (qK0 m t far ht x hx.1.good hx.2.good)
     ·rw [bf,qM,sA]
      rw [hms'] at few
      omega
    have hrl:rows.length<=100000:=by omega
    have q1:aa call [zF (ah m l),zF (ah m r),zF (eX t far),zT (.lst ((st.map (aF m)).reverse)),zT (.lst (rows.map (aS m))),zF (aF m x),o6] (.cv 2 [(.call 10 [(.ix V5 (kI 1))]),(.call 10 [(.ix V5 (kI 3))])])=zF (.str (W m t far x)):=by
     rw [xJ,dC,show aa call [zF (ah m l),zF (ah m r),zF (eX t far),zT (.lst ((st.map (aF m)).reverse)),zT (.lst (rows.map (aS m))),zF (aF m x),o6] (.call 10 [(.ix V5 (kI 1))])=zF (aO m (tl x.1.2)) from c10a,bL,dC,show aa call [zF (ah m l),zF (ah m r),zF (eX t far),zT (.lst ((st.map (aF m)).reverse)),zT (.lst (rows.map (aS m))),zF (aF m x),o6] (.call 10 [(.ix V5 (kI 3))])=zF (aO m (tl x.2.2)) from c10b]
     show (if (decide (CL<=CL+42)&&((bO (aO m (tl x.1.2))&&(bO (aO m (tl x.2.2))&&true))&&(true&&(true&&true))))=true then call (CL+42 - CL) [aO m (tl x.1.2),aO m (tl x.2.2),.int t,.int far] else none)=_
     rw [oN m _ hx.1.good.nc,oN m _ hx.2.good.nc,Ql (by rw [Qk (Nat.le_add_right _ _)];rfl),f6,cl]
    refine⟨[zF (ah m l),zF (ah m r),zF (eX t far),zT (.lst (((iw m t far x++st).map (aF m)).reverse)),zT (.lst ((rows++[(x,W m t far x)]).map (aS m))),zF (aF m x),zF (.str (W m t far x))],?_,ms (iw m t far x++st),?_,iw m t far x++st,rows++[(x,W m t far x)],_,_,rfl,wk',rfl⟩
    ·refine qPa (by show ao [zF (ah m l),zF (ah m r),zF (eX t far),zT (.lst (((x::st).map (aF m)).reverse)),zT (.lst (rows.map (aS m))),o5,o6] 3=_;rw [hpop];rfl) rfl ?_
     refine au _ q1 ?_
     refine jR (false,aS m (x,W m t far x)) rfl rfl (jN (by rw [aC];omega)) ?_
     have e2:aa call [zF (ah m l),zF (ah m r),zF (eX t far),zT (.lst ((st.map (aF m)).reverse)),zT (.lst (rows.map (aS m)++[aS m (x,W m t far x)])),zF (aF m x),zF (.str (W m t far x))] (.cmp .eq V6 (.k (tx "open")))=zF (.bl (decide (W m t far x=Qa "open"))):=cP rfl rfl (si _ "open")
     have er:(rows++[(x,W m t far x)]).map (aS m)=rows.map (aS m)++[aS m (x,W m t far x)]:=by simp
     rw [er]
     unfold iw
     by_cases ho:W m t far x=Qa "open"
     ·rw [Qk ho] at e2
      rw [Ql ho,List.map_append,lV]
      refine iK e2 (k6 (ys:=((behind x).map (aF m)).reverse) ?_ rfl (cJ ?_) rfl) rfl
      ·have q2:aa call [zF (ah m l),zF (ah m r),zF (eX t far),zT (.lst ((st.map (aF m)).reverse)),zT (.lst (rows.map (aS m)++[aS m (x,W m t far x)])),zF (aF m x),zF (.str (W m t far x))] (.call 16 [V5])=zT (.lst ((behind x).map (aF m))):=qq
       have q3:aa call [zF (ah m l),zF (ah m r),zF (eX t far),zT (.lst ((st.map (aF m)).reverse)),zT (.lst (rows.map (aS m)++[aS m (x,W m t far x)])),zF (aF m x),zF (.str (W m t far x))] (.revL (.call 16 [V5]))=zT (.lst (((behind x).map (aF m)).reverse)):=by
        rw [qMr,ft q2]
        show (if ((behind x).map (aF m)).length<=lim then zT (D.lst ((behind x).map (aF m)).reverse) else none)=_
        rw [Ql (cJ (by rw [aC];have b1:=mK (behind x);have b2:=pW x;rw [hms'] at few;omega))]
       exact q3
      ·have b1:=mK (behind x)
       have b2:=pW x
       have b3:=mK st
       rw [hms'] at few
       simp only [nQ,aC]
       omega
     ·rw [Qj ho] at e2
      rw [Qm ho]
      exact bJ e2 rfl
    ·rw [sA,<-hms,hms']
     omega)
 obtain⟨M',Z',h1,⟨st,rows,o5,o6,rfl,wk,_⟩,z,h2⟩:=loop jg (nd l * nd r) [zF (ah m l),zF (ah m r),zF (eX t far),zT (.lst [aF m (([],l),([],r))]),zT (.lst []),none,none] (Nat.lt_of_le_of_lt hM (bG (show 100000<2^100 by decide) (nS (by decide) (by decide)))) ⟨[(([],l),([],r))],[],none,none,rfl,w0,by show nd l * nd r+0=_;omega⟩
 have hst:st=[]:=by
  have hlen:aa call [zF (ah m l),zF (ah m r),zF (eX t far),zT (.lst ((st.map (aF m)).reverse)),zT (.lst (rows.map (aS m))),o5,o6] (.cmp .gt (.bi .len [V3]) (kI 0))=zF (.bl (decide ((st.length:Int) > 0))):=by
   refine cP (dX (r:=(false,.int (st.length:Int))) (cG rfl ?_)) rfl rfl
   show some (false,D.int ((((st.map (aF m)).reverse).length:Nat):Int))=_
   rw [nQ,aC]
  rw [hlen] at h2
  cases st with
  | nil=>rfl
  | cons x st=>rw [Qk (by rw [dG];omega)] at h2;cases h2
 subst hst
 have few:=wk.few
 refine⟨rows,wk.row,by have:=wk.perm;simpa using this,by omega,?_⟩
 refine au (true,.lst [aF m (([],l),([],r))]) rfl ?_
 refine au (true,.lst []) rfl ?_
 refine xE h1 ?_
 exact aE rfl rfl
end
end Dw.T
namespace Dw.T
open Dw PySem
noncomputable def bq (r:Int×Int):D:=.tup [.int r.1,.int r.2]
def sP (l:List (Int×Int)):List D:=(gM (l.map λr=>[r.1,r.2])).map λt=>.tup (t.map .int)
theorem qNb {l k:List (Int×Int)}(h:l.Perm k):sP l=sP k:=by
 unfold sP
 rw [sS (((m9 _).trans (h.map _)).trans (m9 _).symm) (sZ _) (sZ _)]
theorem Au:∀l:List (Int×Int),k7 (l.map bq)=some (l.map λr=>[r.1,r.2])
 | []=>rfl
 | r::l=>by
  show ((dY [.int r.1,.int r.2]).bind λis=>(k7 (l.map bq)).map (is::·))=_
  rw [Au l]
  rfl
theorem Af (l:List (Int×Int)):cK .sorted [.lst (l.map bq)]=zT (.lst (sP l)):=by
 show jF (l.map bq)=_
 cases l with
 | nil =>
  unfold sP gM
  simp [jF,dY,gK]
 | cons r l =>
  have h:dY ((r::l).map bq)=none:=rfl
  unfold jF
  rw [h]
  show (k7 ((r::l).map bq)).bind _=_
  rw [Au,bL,Ql]
  ·rfl
  ·intro t ht
   obtain⟨x,_,rfl⟩:=yaN.mp ht
   exact List.cons_ne_nil _ _
theorem pM (m:Nat) (t far:Int):∀A B:List Th,(due m t far A B).length<=A.length * B.length
 | [],B=>by simp [due]
 | a::A,B=>by
  show (bH m t far a B++due m t far A B).length<=_
  have h1:(bH m t far a B).length<=B.length:=by unfold bH;rw [aC];exact List.length_filter_le _ _
  have:=pM m t far A B
  rw [bf,dG,nH]
  omega
theorem qN1 (m:Nat) (t far:Int) (a:Th) (B:List Th):((du m t a B).filter λr=>decide (r.1<=far)).map (λr=>(r.2.1,r.2.2))=bH m t far a B:=by
 unfold du bH
 rw [List.filter_map,List.map_map,List.filter_filter]
 congr 1
 refine List.filter_congr λb _=>?_
 rw [Bool.and_comm]
 rfl
theorem qKN (m:Nat) (t far:Int) (A B:List Th):((A.flatMap λa=>du m t a B).filter λr=>decide (r.1<=far)).map (λr=>(r.2.1,r.2.2))=due m t far A B:=by
 induction A with
 | nil=>rfl
 | cons a A ih =>
  rw [fY,List.filter_append,List.map_append,ih,qN1]
  rfl
theorem qP7 (m:Nat) (u:Th):bO (ae m u)=true:=by
 show (true&&(bO (cW m u.sw)&&(true&&(true&&true))))=true
 rw [sD]
 rfl
mutual
theorem sE (m:Nat):∀p:Tr,Good p->bO (ah m p)=true
 | .leaf o ts,h=>by
  rw [ah]
  show (true&&(bO (aO m o)&&(dv (ts.map (ae m))&&true)))=true
  rw [oN m o h.nc,(mR _).mpr λd hd=>by obtain⟨u,_,rfl⟩:=yaN.mp hd;exact qP7 m u]
  rfl
 | .fork o ps,h=>by
  have h2:Goods ps:=by rw [Good] at h;exact h.2
  rw [ah]
  show (true&&(bO (aO m o)&&(dv (hU m ps)&&true)))=true
  rw [oN m o h.nc,yS m ps h2]
  rfl
theorem yS (m:Nat):∀ps:List Tr,Goods ps->dv (hU m ps)=true
 | [],_=>by rw [hU];rfl
 | p::ps,h=>by
  rw [Goods] at h
  rw [hU]
  show (bO (ah m p)&&dv (hU m ps))=true
  rw [sE m p h.1,yS m ps h.2]
  rfl
end
theorem xq (q:List Int):bO (dM q)=true:=(mR _).mpr λd hd=>by
 obtain⟨j,_,rfl⟩:=yaN.mp hd
 rfl
theorem qP8 (m:Nat) (r:Pl×Str) (h:PlOk r.1):bO (aS m r)=true:=by
 show ((bO (dM r.1.1.1)&&(bO (ah m r.1.1.2)&&(bO (dM r.1.2.1)&&(bO (ah m r.1.2.2)&&true))))&&(true&&true))=true
 rw [xq,xq,sE m _ h.1.good,sE m _ h.2.good]
 rfl
section
variable {call:Nat->List D->Option R}
theorem qMH (m:Nat) (x:Pl) (w:Str) (C9:∀p,call 9 [ah m p]=zF (.bl (aJ p))):ak call [zF (aF m x),zF (.str w)] f_is_open_leaves.body=some (.rt (false,.bl (decide (w=Qa "open")&&(aJ x.1.2&&aJ x.2.2)))):=by
 refine aE (oO (x:=false) (y:=false) (cP rfl rfl (si _ "open")) (oO (x:=false) (y:=false) (C9 x.1.2) (C9 x.2.2))) rfl
def vN (r:Pl×Str):D:=.tup [dM r.1.1.1,dM r.1.2.1,.str r.2]
theorem qJO (m:Nat) (rows:List (Pl×Str)):ak call [zF (.lst (rows.map (aS m)))] f_join_paper.body=some (.rt (false,.tup (rows.map vN))):=by
 have hc:=gT (call:=call) (Z:=[zF (.lst (rows.map (aS m)))]) (e:=(.tup [(.ix V0 (kI 0)),(.ix V0 (kI 2)),V1])) (nl:=2) (ks:=[]) (tg:=.two 0 1) (src:=V0) rfl rfl rfl (fO call _ (aS m) vN rows λr _=>⟨[zF (aF m r.1),zF (.str r.2)],false,rfl,rfl⟩)
 exact aE (cG (ue hc) rfl) rfl
theorem qJK (m:Nat) (p q:Tr) (hl:(und p).length * (und q).length<=100000) (C12:∀x,x=p∨x=q->call 12 [ah m x]=zF (.tup ((und x).map (ae m)))) (C4:∀u,call 4 [ae m u]=zF (.int u.hd)) :
  ak call [zF (ah m p),zF (ah m q),none,none,none,none] f_pairs_of_whole.body=some (.rt (true,.lst ((iW (und p) (und q)).map bq))):=by
 have c1:=C12 p (.inl rfl)
 have c2:=C12 q (.inr rfl)
 unfold iW
 generalize und p=A at *
 generalize und q=B at *
 have h0:aa call [zF (ah m p),zF (ah m q),none,none,none,none] (.compS (.call 4 [V0]) 1 [] (.one 0) (.call 12 [V1]))=zT (.lst (B.map λb=>.int b.hd)):=
  gT (r:=(false,.tup (B.map (ae m)))) c2 rfl rfl (fO call _ (ae m) (λb=>.int b.hd) B λu _=>⟨_,false,rfl,C4 u⟩)
 refine au _ h0 ?_
 refine au (true,.lst []) rfl ?_
 have lenB:∀a:Th,((B.filter λb=>decide (b.hd≠a.hd)).map λb=>(a.hd,b.hd)).length<=B.length:=λa=>by rw [aC];exact List.length_filter_le _ _
 have lenA:∀l:List Th,(l.flatMap λa=>(B.filter λb=>decide (b.hd≠a.hd)).map λb=>(a.hd,b.hd)).length<=l.length * B.length:=λl=>by
  induction l with
  | nil=>simp
  | cons a l ih=>rw [fY,bf,dG,nH];have:=lenB a;omega
 obtain⟨Z',h,o2,o5,rfl⟩:=iq (call:=call) (tg:=.one 2) (body:=AF)
  (λk Z=>∃(o2 o5:Option R),Z=[zF (ah m p),zF (ah m q),o2,zF (.lst (B.map λb=>.int b.hd)),zT (.lst (((A.take k).flatMap λa=>(B.filter λb=>decide (b.hd≠a.hd)).map λb=>(a.hd,b.hd)).map bq)),o5]) (A.map (ae m)) 0
  [zF (ah m p),zF (ah m q),none,zF (.lst (B.map λb=>.int b.hd)),zT (.lst []),none] ⟨none,none,rfl⟩ (by
   rintro k d Z hk ⟨o2,o5,rfl⟩
   rw [cu] at hk
   obtain⟨a,ha,rfl⟩:=yad.mp hk
   have hm:=cj ha
   have h1:((A.take (0+k+1)).flatMap λa=>(B.filter λb=>decide (b.hd≠a.hd)).map λb=>(a.hd,b.hd))=((A.take (0+k)).flatMap λa=>(B.filter λb=>decide (b.hd≠a.hd)).map λb=>(a.hd,b.hd))++(B.filter λb=>decide (b.hd≠a.hd)).map λb=>(a.hd,b.hd):=by rw [cZ,take_one ha,iG];simp
   have h2:=lenA (A.take (0+k))
   have h3:=lenB a
   have h4:(A.take (0+k)).length * B.length<=A.length * B.length:=Nat.mul_le_mul_right _ (by rw [eL];omega)
   have h5:B.length<=100000:=by
    have:1<=A.length:=List.length_pos_iff.mpr (List.ne_nil_of_mem hm)
    have:=Nat.mul_le_mul_right B.length this
    omega
   have c4:=C4 a
   refine⟨[zF (ah m p),zF (ah m q),zF (ae m a),zF (.lst (B.map λb=>.int b.hd)),zT (.lst (((A.take (0+k)).flatMap λa=>(B.filter λb=>decide (b.hd≠a.hd)).map λb=>(a.hd,b.hd)).map bq)),o5],_,rfl,?_,zF (ae m a),zF (.int a.hd),rfl⟩
   rw [h1,List.map_append]
   refine au (false,.int a.hd) c4 ?_
   refine k6 (ys:=((B.filter λb=>decide (b.hd≠a.hd)).map λb=>(a.hd,b.hd)).map bq) ?_ rfl (cJ (by rw [aC,aC];omega)) rfl
   rw [pV]
   show (iN call (.cmp .ne V0 V1) (.tup [V1,V0]) [none,zF (.int a.hd)] (.one 0) (B.map λb=>.int b.hd)).bind _=_
   rw [qf (λb:Th=>D.int b.hd) (λb=>bq (a.hd,b.hd)) (λb=>decide (b.hd≠a.hd)) B λb hb=>⟨_,rfl,cP rfl rfl (qo _ _),λ_=>⟨false,rfl⟩⟩,List.map_map]
   rfl)
 rw [aC,cZ,dF (ar _)] at h
 refine jf c1 rfl h ?_
 exact aE rfl rfl
theorem qMF (m:Nat) (t far:Int) (rows:List (Pl×Str)) (ok:∀r∈rows,PlOk r.1) (N:(rows.flatMap (dO m t far)).length<=10000)
  (C25:∀p q,PpOk p->PpOk q->call 25 [ah m p.2,ah m q.2]=zT (.lst ((iW (und p.2) (und q.2)).map bq)))
  (C19:∀(x:Pl) (w:Str),call 19 [aF m x,.str w]=zF (.bl (decide (w=Qa "open")&&(aJ x.1.2&&aJ x.2.2))))
  (C21:∀p q,PpOk p->PpOk q->aJ p.2=true->aJ q.2=true->call 21 [ah m p.2,ah m q.2,.int t]=zT (.lst (((und p.2).flatMap λa=>du m t a (und q.2)).map g3))) :
  ak call [zF (.lst (rows.map (aS m))),zF (.int far),zF (.int t),none,none,none,none] f_pairs_of_rows.body=some (.rt (false,.tup (sP (rows.flatMap (dO m t far))))):=by
 refine au (true,.lst []) rfl ?_
 obtain⟨Z',h,o4,o5,o6,rfl⟩:=iq (call:=call) (tg:=.two 4 5) (body:=AI)
  (λk Z=>∃(o4 o5 o6:Option R),Z=[zF (.lst (rows.map (aS m))),zF (.int far),zF (.int t),zT (.lst (((rows.take k).flatMap (dO m t far)).map bq)),o4,o5,o6]) (rows.map (aS m)) 0
  [zF (.lst (rows.map (aS m))),zF (.int far),zF (.int t),zT (.lst []),none,none,none] ⟨none,none,none,rfl⟩ (by
   rintro k d Z hk ⟨o4,o5,o6,rfl⟩
   rw [cu] at hk
   obtain⟨r,hr,rfl⟩:=yad.mp hk
   have hm:=cj hr
   obtain⟨fS,ok2⟩:=ok r hm
   have h1:(rows.take (0+k+1)).flatMap (dO m t far)=(rows.take (0+k)).flatMap (dO m t far)++dO m t far r:=by rw [cZ,take_one hr,iG];simp
   have h2:((rows.take (0+k+1)).flatMap (dO m t far)).length<=(rows.flatMap (dO m t far)).length:=by
    conv=>rhs;rw [<-gF (0+k+1) rows,iG,bf]
    omega
   rw [h1,bf] at h2
   generalize hK:((rows.take (0+k)).flatMap (dO m t far))=K at *
   obtain⟨x,w⟩:=r
   have e1:∀o6,aa call [zF (.lst (rows.map (aS m))),zF (.int far),zF (.int t),zT (.lst (K.map bq)),zF (aF m x),zF (.str w),o6] (.cmp .eq V5 (.k (tx "whole")))=zF (.bl (decide (w=Qa "whole"))):=λo6=>cP rfl rfl (si _ "whole")
   by_cases hw:w=Qa "whole"
   ·have ec:dO m t far (x,w)=iW (und x.1.2) (und x.2.2):=by unfold dO;rw [Ql hw]
    rw [ec] at h1 h2
    refine⟨[zF (.lst (rows.map (aS m))),zF (.int far),zF (.int t),zT (.lst (K.map bq)),zF (aF m x),zF (.str w),o6],_,rfl,?_,zF (aF m x),zF (.str w),o6,rfl⟩
    rw [h1,List.map_append]
    have c:=C25 x.1 x.2 fS ok2
    refine iK (by rw [e1,Qk hw]) (k6 (xs:=K.map bq) c rfl (cJ (by rw [aC,aC];omega)) rfl) ?_
    refine bJ (x:=false) ?_ rfl
    have:=C19 x w
    rw [Qj (show ¬w=Qa "open" by rw [hw];decide)] at this
    exact this
   ·have ec:dO m t far (x,w)=if w=Qa "open"/\aJ x.1.2=true/\aJ x.2.2=true then fG m t far x else []:=by unfold dO;rw [Qm hw]
    rw [ec] at h1 h2
    have kf:=C19 x w
    by_cases ho:w=Qa "open"/\aJ x.1.2=true/\aJ x.2.2=true
    ·rw [Ql ho] at h1 h2
     rw [Qk ho.1,ho.2.1,ho.2.2] at kf
     refine⟨[zF (.lst (rows.map (aS m))),zF (.int far),zF (.int t),zT (.lst (K.map bq)),zF (aF m x),zF (.str w),o6],_,rfl,?_,zF (aF m x),zF (.str w),zF (.lst (((und x.1.2).flatMap λa=>du m t a (und x.2.2)).map g3)),rfl⟩
     rw [h1,List.map_append]
     refine bJ (by rw [e1,Qj hw]) ?_
     have c:=C21 x.1 x.2 fS ok2 ho.2.1 ho.2.2
     refine iK (x:=false) kf (au (true,.lst (((und x.1.2).flatMap λa=>du m t a (und x.2.2)).map g3)) c (k6 (xs:=K.map bq) (ys:=(fG m t far x).map bq) ?_ rfl (cJ (by rw [aC,aC];omega)) rfl)) rfl
     rw [pV]
     show (iN call (.cmp .le (.ix V0 (kI 0)) V1) (.tup [(.ix V0 (kI 1)),(.ix V0 (kI 2))]) [none,zF (.int far)] (.one 0) (((und x.1.2).flatMap λa=>du m t a (und x.2.2)).map g3)).bind _=_
     rw [qf g3 (λr=>bq (r.2.1,r.2.2)) (λr=>decide (r.1<=far)) _ λb hb=>⟨_,rfl,cP (gQ (r:=(false,.int b.1)) (ck rfl rfl rfl)) rfl (AR _ _),λ_=>⟨false,rfl⟩⟩]
     unfold fG
     rw [<-qKN,List.map_map]
     rfl
    ·rw [Qm ho] at h1 h2
     refine⟨[zF (.lst (rows.map (aS m))),zF (.int far),zF (.int t),zT (.lst (K.map bq)),zF (aF m x),zF (.str w),o6],_,rfl,?_,zF (aF m x),zF (.str w),o6,rfl⟩
     rw [h1,cL]
     refine bJ (by rw [e1,Qj hw]) (bJ (x:=false) ?_ rfl)
     have:(decide (w=Qa "open")&&(aJ x.1.2&&aJ x.2.2))=false:=by
      cases e:(decide (w=Qa "open")&&(aJ x.1.2&&aJ x.2.2)) with
      | false=>rfl
      | true =>
       rw [aI,aI] at e
       exact Qn ⟨Qp e.1,e.2⟩ ho
     rw [this] at kf
     exact kf)
 rw [aC,cZ,dF (ar _)] at h
 refine jf (r:=(false,.lst (rows.map (aS m)))) rfl rfl h ?_
 exact aE (cG (dX (cG rfl (Af _))) rfl) rfl
theorem qJM (m:Nat) (t far:Int) (l r:Tr) (d1 d2:D) (rows:List (Pl×Str)) (ok:∀x∈rows,PlOk x.1)
  (C17:call 17 [ah m l,ah m r,eX t far]=zT (.lst (rows.map (aS m)))) (C26:call 26 [.lst (rows.map (aS m)),.int far,.int t]=zF d1) (C18:call 18 [.lst (rows.map (aS m))]=zF d2) :
  ak call [zF (ah m l),zF (ah m r),zF (.int far),zF (.int t),none] f_near_pairs.body=some (.rt (false,.tup [d1,d2])):=by
 have q1:aa call [zF (ah m l),zF (ah m r),zF (.int far),zF (.int t),none] (.lamc 17 [V0,V1] 42 [3,2])=zT (.lst (rows.map (aS m))):=by
  show (call 17 [ah m l,ah m r,eX t far]).bind oj=_
  rw [C17]
  show (if dv (rows.map (aS m))=true then _ else _)=_
  rw [Ql ((mR _).mpr λd hd=>by obtain⟨x,hx,rfl⟩:=yaN.mp hd;exact qP8 m x (ok x hx))]
 refine au _ q1 (aE ?_ rfl)
 show eM [zF (ah m l),zF (ah m r),zF (.int far),zF (.int t),zF (.lst (rows.map (aS m)))] _ (aa call [zF (ah m l),zF (ah m r),zF (.int far),zF (.int t),zF (.lst (rows.map (aS m)))] (.tup [(.call 26 [V4,V2,V3]),(.call 18 [V4])]))=_
 rw [iO,dC,show aa call [zF (ah m l),zF (ah m r),zF (.int far),zF (.int t),zF (.lst (rows.map (aS m)))] (.call 26 [V4,V2,V3])=zF d1 from C26,bL,dC,show aa call [zF (ah m l),zF (ah m r),zF (.int far),zF (.int t),zF (.lst (rows.map (aS m)))] (.call 18 [V4])=zF d2 from C18]
 rfl
end
end Dw.T
namespace Dw.T
open Dw PySem
theorem rR (xs:List D) (k:Nat) (d:D) (h:xs[k]?=some d):bu (.tup xs) (.int (k:Int))=zF d:=by
 have hl:k<xs.length:=(yao.mp h).1
 rw [wc]
 unfold gB iS
 rw [sQ _ _ hl,bL,h]
 rfl
theorem jL (xs:List D) (k:Nat) (d:D) (h:xs[k]?=some d):bu (.lst xs) (.int (k:Int))=zF d:=by
 have hl:k<xs.length:=(yao.mp h).1
 rw [oV]
 unfold gB iS
 rw [sQ _ _ hl,bL,h]
 rfl
theorem mq (n m:Nat) (p:Tr):aD tab (n+1) 9 [ah m p]=zF (.bl (aJ p)):=aK (n:=n) t9 rfl (by rw [fi];rfl) (qJP m p)
theorem qOg (n m:Nat) (p:Tr):aD tab (n+1) 10 [ah m p]=zF (aO m (tl p)):=aK (n:=n) vJ rfl (by rw [fi];rfl) (qME m p)
theorem p7 (n m:Nat) (p:Tr):aD tab (n+1) 11 [ah m p]=zF (.tup (i9 m p)):=aK (n:=n) vI rfl (by rw [fi];rfl) (qJL m p)
theorem xF (m:Nat):∀(k:Nat) (p:Tr),hg p<=k->(und p).length<=1000->∀n,aD tab (n+k+2) 12 [ah m p]=zF (.tup ((und p).map (ae m)))
 | 0,p,hk,hl,n=>aK (n:=n+1) qY rfl (by rw [fi];rfl) (wX m p hl (mq n m p) (p7 n m p) λq hq _=>Qn hq (by omega))
 | k+1,p,hk,hl,n=>aK (n:=n+k+2) qY rfl (by rw [fi];rfl) (wX m p hl (mq (n+k+1) m p) (p7 (n+k+1) m p) λq hq hl'=>xF m k q (by omega) hl' n)
theorem rE (n m:Nat) (f g:Nat->P2) (hf:∀j,dP (f j)) (hg:∀j,dP (g j)):aD tab (n+2) 1 [bE m f,bE m g]=zF (.int (aP m f g)):=
 aK (n:=n+1) t1 rfl rfl (qTf m f g hf hg λp q=>aK (n:=n) t0 rfl rfl (qTc p q))
section
variable (t:Int) (ht:0<=t/\t<=10^15)
include ht
theorem rM (n m:Nat) (c:Fr):aD tab (n+2) 3 [cW m c,.int t]=zF (bE m (qA c t)):=
 aK (n:=n+1) t3 rfl rfl (qTe m c t λq=>aK (n:=n) t2 rfl rfl (qTd q t (by omega)))
theorem qSL (n m:Nat) (o:To):aD tab (n+3) 13 [cU m o,.int t]=zF (bE m (qA o.cov t)):=
 aK (n:=n+2) vH rfl rfl (aE (gS (fP (r:=(false,cW m o.cov)) (aK (n:=n+1) (as:=[cU m o]) t7 rfl rfl (aE (ck rfl rfl (rR _ 0 _ rfl)) rfl))) rfl (rM t ht n m o.cov)) rfl)
theorem qSK (n m:Nat) (o:To):aD tab (n+3) 14 [cU m o,.int t]=zF (bE m (qA o.hrt t)):=
 aK (n:=n+2) vG rfl rfl (aE (gS (fP (r:=(false,cW m o.hrt)) (aK (n:=n+1) (as:=[cU m o]) t8 rfl rfl (aE (ck rfl rfl (rR _ 1 _ rfl)) rfl))) rfl (rM t ht n m o.hrt)) rfl)
theorem qQN (n m:Nat) (u:Th):aD tab (n+3) 6 [ae m u,.int t]=zF (bE m (qA u.sw t)):=
 aK (n:=n+2) t6 rfl rfl (aE (gS (fP (r:=(false,cW m u.sw)) (aK (n:=n+1) (as:=[ae m u]) t5 rfl rfl (aE (ck rfl rfl rfl) rfl))) rfl (rM t ht n m u.sw)) rfl)
omit ht in
theorem wW (n m:Nat) (u:Th):aD tab (n+1) 4 [ae m u]=zF (.int u.hd):=aK (n:=n) t4 rfl rfl (aE (ck rfl rfl rfl) rfl)
theorem qQM (n m:Nat) (far:Int) (a b:Tr) (ha:Good a) (hb:Good b):aD tab (n+5) 24 [aO m (tl a),aO m (tl b),.int far,.int t]=zF (.str (word m t far (tl a) (tl b))):=by
 have ca:∀o,tl a=some o->eN o.cov/\eN o.hrt:=λo e=>by have:=ha.o;rw [e] at this;exact⟨this.1,this.2.1⟩
 have cb:∀o,tl b=some o->eN o.cov/\eN o.hrt:=λo e=>by have:=hb.o;rw [e] at this;exact⟨this.1,this.2.1⟩
 refine aK (n:=n+4) vw rfl (by rw [kF,kF];rfl) (qOR m t far (tl a) (tl b) ?_ λx y ex ey=>?_)
 ·exact aK (n:=n+3) vy rfl (by rw [kF,kF];rfl) (qML m t far ht (tl a) (tl b) (λo e=>(ca o e).1) (λo e=>(cb o e).1) (λo=>qSL t ht n m o) λf g hf hg=>rE (n+1) m f g hf hg)
 ·exact aK (n:=n+3) vx rfl rfl (qMC m t far ht x y (ca x ex).2 (cb y ey).2 (λo=>qSK t ht n m o) λf g hf hg=>rE (n+1) m f g hf hg)
theorem qSJ (n m:Nat) (far:Int) (a b:Tr) (ha:Good a) (hb:Good b):aD tab (n+6) 42 [aO m (tl a),aO m (tl b),.int t,.int far]=zF (.str (word m t far (tl a) (tl b))):=by
 have c:=qQM t ht n m far a b ha hb
 refine aK (n:=n+5) t42 rfl (by rw [kF,kF];rfl) (aE (Z:=[zF (aO m (tl a)),zF (aO m (tl b)),zF (.int t),zF (.int far)]) (show aa _ [zF (aO m (tl a)),zF (aO m (tl b)),zF (.int t),zF (.int far)] (.call 24 [V0,V1,V3,V2])=zF (.str (word m t far (tl a) (tl b))) from c) rfl)
theorem qK4 (n m:Nat) (x:Pl) (hx:PlOk x) (hw:wt x<=100000):aD tab (n+3) 16 [aF m x]=zT (.lst ((behind x).map (aF m))):=by
 have n1:=kY x.1.2
 have n2:=kY x.2.2
 have w1:nd x.1.2<=100000:=aM (Nat.le_mul_of_pos_right _ n2) hw
 have w2:nd x.2.2<=100000:=aM (Nat.le_mul_of_pos_left _ n1) hw
 refine aK (n:=n+2) vE rfl rfl (qJQ m x hw (λp=>mq (n+1) m p) λy hy=>?_)
 have hy':PpOk y/\nd y.2<=100000:=by
  rcases hy with rfl|rfl
  ·exact⟨hx.1,w1⟩
  ·exact⟨hx.2,w2⟩
 exact aK (n:=n+1) vF rfl (by show zF (dM y.1)::bX false [ah m y.2]++_=_;rw [fi];rfl) (qMG m y (by have:=hy'.1.path;omega) hy'.2 (mq n m y.2) (p7 n m y.2))
theorem qQP (n m:Nat) (p q:Pp) (hp:PpOk p) (hq:PpOk q) (lp:aJ p.2=true) (lq:aJ q.2=true):aD tab (n+5) 21 [ah m p.2,ah m q.2,.int t]=zT (.lst (((und p.2).flatMap λa=>du m t a (und q.2)).map g3)):=by
 have h1:=Nat.mul_le_mul hp.few hq.few
 exact aK (n:=n+4) vz rfl (by rw [fi,fi];rfl) (qOZ m t p.2 q.2 lp lq ht hp.good.th hq.good.th (by omega) (λp=>p7 (n+3) m p) (λts=>aK (n:=n+3) vA rfl rfl (qMJ m t ts (λu=>wW (n+2) m u) λu=>qQN t ht n m u)) λf g hf hg=>rE (n+2) m f g hf hg)
omit ht in
theorem qK3 (n m:Nat) (p q:Pp) (hp:PpOk p) (hq:PpOk q):aD tab (n+11) 25 [ah m p.2,ah m q.2]=zT (.lst ((iW (und p.2) (und q.2)).map bq)):=by
 have h1:=Nat.mul_le_mul hp.few hq.few
 refine aK (n:=n+10) vt rfl (by rw [fi,fi];rfl) (qJK m p.2 q.2 (by omega) (λx hx=>?_) λu=>wW (n+9) m u)
 have hx':hg x<=8/\(und x).length<=1000:=by
  rcases hx with rfl|rfl
  ·exact⟨hp.high,by have:=hp.few;omega⟩
  ·exact⟨hq.high,by have:=hq.few;omega⟩
 exact xF m 8 x hx'.1 hx'.2 n
theorem qQO (n m:Nat) (far:Int) (l r:Tr) (hl:PpOk ([],l)) (hr:PpOk ([],r)) (hM:nd l * nd r<=100000):∃ps,aD tab (n+13) 27 [ah m l,ah m r,.int far,.int t]=zF (.tup [.tup (sP (due m t far (und l) (und r))),.tup ps]):=by
 obtain⟨rows,ok,pm,few,e⟩:=qOY (call:=aD tab (n+11)) m t far ht.1 l r hl hr hM (λp=>qOg (n+10) m p) (λa b ha hb=>qSJ t ht (n+5) m far a b ha hb) λx hx hw=>qK4 t ht (n+8) m x hx hw
 have N:(rows.flatMap (dO m t far)).length<=10000:=by
  rw [pm.length_eq]
  exact aM (pM m t far _ _) (Nat.mul_le_mul hl.few hr.few)
 refine⟨_,aK (n:=n+12) t27 rfl (by rw [fi,fi];rfl) (qJM m t far l r _ _ rows ok (aK (n:=n+11) vD rfl (by rw [fi,fi];rfl) e) ?_ (aK (n:=n+11) vC rfl rfl (qJO m rows)))⟩
 rw [<-qNb pm]
 exact aK (n:=n+11) vq rfl rfl (qMF m t far rows ok N (λp q hp hq=>qK3 n m p q hp hq) (λx w=>aK (n:=n+10) vB rfl rfl (qMH m x w λp=>mq (n+9) m p)) λp q hp hq lp lq=>qQP t ht (n+6) m p q hp hq lp lq)
end
end Dw.T
namespace Dw.T
open Dw PySem
noncomputable def dN (s j n:Int):Int:=(((s+3+j) * (s+5 * j+11) * (10^33+7)).fdiv 13).fmod n
theorem pA (s j n:Int) (h:0<n):0<=dN s j n/\dN s j n<n:=dH _ _ h
theorem w4 {x:Int}(h:0<=x/\x<2):x=0∨x=1:=by omega
theorem lD {x:Int}(h:0<=x/\x<3):x=0∨x=1∨x=2:=by omega
theorem og (a b c x:Int) (h:0<=x/\x<3):bu (.lst [.int a,.int b,.int c]) (.int x)=zF (.int (if x=0 then a else if x=1 then b else c)):=by
 rcases lD h with rfl|rfl|rfl<;>rfl
theorem qTE (a b x:Int) (h:0<=x/\x<2):bu (.lst [.int a,.int b]) (.int x)=zF (.int (if x=0 then a else b)):=by
 rcases w4 h with rfl|rfl<;>rfl
structure ThW (u:Th):Prop where
 ok:eN u.sw
 sp:∀j,(u.sw j).2.2.2=(u.sw j).2.2.1
 mr:0<=u.mr/\u.mr<65536
section
variable {call:Nat->List D->Option R}
theorem qO0 (s j n:Int) (hs:0<=s/\s<=10^41) (hj:0<=j/\j<=100) (hn:0<n/\n<2^200):ak call [zF (.int s),zF (.int j),zF (.int n)] f_law_draw.body=some (.rt (false,.int (dN s j n))):=by
 have m1:=kJ 5 j (by decide)
 have m2:=ro (s+3+j) (s+5 * j+11) (by omega) (by omega)
 have p:gR 10 33=true:=by decide
 have v1:=qMm
 have v2:=qN0
 have h1:0<=(s+3+j) * (s+5 * j+11)/\(s+3+j) * (s+5 * j+11)<=(10^41+1000) * (10^41+1000):=⟨Int.mul_nonneg (by omega) (by omega),nK (by omega) (by omega) (by omega) (by decide)⟩
 have h2:((s+3+j) * (s+5 * j+11)).natAbs<iX:=by
  have:(10^41+1000) * (10^41+1000)<2^300:=by decide
  have:2^260 * 2^64 ≥ 2^300:=by decide
  have h3:2^260<=iZ:=uW (by decide) (by decide)
  omega
 have m3:=qTB ((s+3+j) * (s+5 * j+11)) (10^(33:Int).toNat+7) h2 (by show 1000000000000000000000000000000007<iX;omega)
 have d1:aT 13=true:=by decide
 have dn:aT n=true:=jx n (by omega) (by omega)
 exact aE (by simp only [eM,aN,pk,ao,ba,aX,aY,aL,bp,aR,aZ,ir,lE,m1,↓reduceIte,m2,jd,p,m3,dw,d1,bU,dn];rfl) rfl
end
def BB (call:Nat->List D->Option R):Prop:=∀s j n:Int,(0<=s/\s<=10^41)->(0<=j/\j<=100)->(0<n/\n<2^200)->call 30 [.int s,.int j,.int n]=zF (.int (dN s j n))
theorem pK (k:Nat) (f:Nat->D):bx (k+1) f=bx k f++[f k]:=by unfold bx;rw [List.range_succ,List.map_append];rfl
section
variable {call:Nat->List D->Option R}
def jt (s F V W:Int) (j:Nat):Q4:=(dN s j (2 * F+1) - F,min F (dN s j (2 * F+1) - F+dN s (j+7) W),dN s (j+14) (2 * V+1) - V,dN s (j+14) (2 * V+1) - V)
theorem qPl (s F V W:Int) (hF:0<F/\F<=10^30) (hV:0<=V/\V<=10^15) (hW:0<W/\W<=10^30) (j:Nat):qC (jt s F V W j):=by
 have h1:=pA s j (2 * F+1) (by omega)
 have h2:=pA s (j+7) W (by omega)
 have h3:=pA s (j+14) (2 * V+1) (by omega)
 unfold qC jt
 dsimp only
 omega
theorem qMD (c:Int) (k m:Nat) (w b:Int) (hk:k<=100) (hm:m<=3) (hw:0<=w) (hb:0<=b/\b<=10^14) (dr:BB call) :
  ∃u:Th,ThW u/\ak call [zF (.int c),zF (.int (k:Int)),zF (.int (m:Int)),zF (.int w),zF (.int b),none,none,none,none,none,none,none,none,none,none] f_law_thing.body=some (.rt (false,ae m u)):=by
 have hs0:=dH c (10^40) (by decide)
 have m1:=kJ 7919 (k:Int) (by decide)
 have m2:=kK (7919 * (k:Int)) (k:Int) (by omega)
 have p40:gR 10 40=true:=by decide
 have p30:gR 10 30=true:=by decide
 have p15:gR 10 15=true:=by decide
 have p14:gR 10 14=true:=by decide
 have d40:aT (10^(40:Int).toNat)=true:=by decide
 have d3:aT 3=true:=by decide
 have d9:aT 9=true:=by decide
 have d2:aT 2=true:=by decide
 have l3:3<=lim:=cJ (by decide)
 have l2:2<=lim:=cJ (by decide)
 have l4:4<=lim:=cJ (by decide)
 have kk:0<=7919 * (k:Int) * (k:Int)/\7919 * (k:Int) * (k:Int)<=7919 * 100 * 100:=by
  have h1:7919 * (k:Int)<=7919 * 100:=by omega
  exact⟨Int.mul_nonneg (by omega) (by omega),nK h1 (by omega) (by omega) (by decide)⟩
 obtain⟨s,hs,es⟩:∃s:Int,(0<=s/\s<=10^41)/\c.fmod (10^(40:Int).toNat)+7919 * (k:Int) * (k:Int)=s:=⟨_,by show 0<=c.fmod (10^40)+_/\c.fmod (10^40)+_<=_;omega,rfl⟩
 have x0:=dH w 3 (by decide)
 obtain⟨F,hF,eF⟩:∃F:Int,(0<F/\F<=10^30)/\bu (.lst [.int 12,.int 90,.int (10^(30:Int).toNat - 1)]) (.int (w.fmod 3))=zF (.int F):=by
  refine⟨_,?_,og 12 90 (10^(30:Int).toNat - 1) _ x0⟩
  rcases lD x0 with e|e|e<;>rw [e]<;>decide
 have x1:=dH (w.fdiv 3) 3 (by decide)
 obtain⟨V,hV,eV⟩:∃V:Int,(0<=V/\V<=10^15)/\bu (.lst [.int 0,.int 4,.int (10^(15:Int).toNat)]) (.int ((w.fdiv 3).fmod 3))=zF (.int V):=by
  refine⟨_,?_,og 0 4 (10^(15:Int).toNat) _ x1⟩
  rcases lD x1 with e|e|e<;>rw [e]<;>decide
 have x2:=dH (w.fdiv 9) 3 (by decide)
 obtain⟨W,hW,eW⟩:∃W:Int,(0<W/\W<=10^30)/\bu (.lst [.int 1,.int 9,.int (F+1)]) (.int ((w.fdiv 9).fmod 3))=zF (.int W):=by
  refine⟨if (w.fdiv 9).fmod 3=0 then 1 else if (w.fdiv 9).fmod 3=1 then 9 else F+1,?_,og 1 9 (F+1) _ x2⟩
  have:F+1<=10^30:=by
   have:F=12∨F=90∨F=10^30 - 1:=by
    have:=og 12 90 (10^(30:Int).toNat - 1) _ x0
    rw [this] at eF
    injection eF with eF
    injection eF with _ eF
    injection eF with eF
    rcases lD x0 with e|e|e<;>rw [e] at eF
    ·exact .inl eF.symm
    ·exact .inr (.inl eF.symm)
    ·exact .inr (.inr eF.symm)
   omega
  rcases lD x2 with e|e|e<;>rw [e]
  ·show (0:Int)<1/\(1:Int)<=10^30
   decide
  ·show (0:Int)<9/\(9:Int)<=10^30
   decide
  ·exact⟨show 0<F+1 by omega,this⟩
 obtain⟨Z',h,o9,o10,o11,o12,rfl⟩:=jX (call:=call) (tg:=.one 9) (body:=AA)
  (λi Z=>∃(o9 o10 o11 o12:Option R),Z=[zF (.int c),zF (.int (k:Int)),zF (.int (m:Int)),zF (.int w),zF (.int b),zF (.int s),zF (.int F),zF (.int V),zT (.lst (bx i λj=>q4 (jt s F V W j))),o9,o10,o11,o12,none,none]) m (λi=>.int (i:Nat))
  [zF (.int c),zF (.int (k:Int)),zF (.int (m:Int)),zF (.int w),zF (.int b),zF (.int s),zF (.int F),zF (.int V),zT (.lst []),none,none,none,none,none,none] ⟨none,none,none,none,rfl⟩ (by
   rintro i Z hi ⟨o9,o10,o11,o12,rfl⟩
   have m3:∀x,h9 2 x=true:=λx=>kJ 2 x (by decide)
   have r1:=dr s i (2 * F+1) hs (by omega) (by omega)
   have r2:=dr s (i+7) W hs (by omega) (by omega)
   have r3:=dr s (i+14) (2 * V+1) hs (by omega) (by omega)
   refine⟨_,_,rfl,?_,zF (.int (i:Int)),zF (.int (dN s i (2 * F+1) - F)),zF (.int (dN s (i+7) W)),zF (.int (dN s (i+14) (2 * V+1) - V)),rfl⟩
   refine au (false,.int (dN s i (2 * F+1) - F)) (by simp [m3,r1]) ?_
   refine au (false,.int (dN s (i+7) W)) (by simp [l3,d9,d3,eW,r2]) ?_
   refine au (false,.int (dN s (i+14) (2 * V+1) - V)) (by simp [m3,r3]) ?_
   rw [pK]
   exact jR (false,q4 (jt s F V W i)) (by simp [l4];rfl) rfl (jN (by rw [lr];omega)) rfl)
 obtain⟨hd,eh⟩:∃hd:Int,∀z,ak call [zF (.int c),zF (.int (k:Int)),zF (.int (m:Int)),zF (.int w),zF (.int b),zF (.int s),zF (.int F),zF (.int V),zT (.lst (bx m λj=>q4 (jt s F V W j))),o9,o10,o11,o12,zF (.int hd),none] [.set 14 false (.bin .sub (.call 30 [V5,(kI 28),(.bin .add (.bin .mul (kI 2) V6) (kI 1))]) V6),.ret (.tup [By,(.bi .tuple [V8]),(.call 30 [V5,(kI 35),(.ix (.lst [(kI 4),(kI 65536)]) (.bin .mod (.bin .fdiv V3 (kI 2)) (kI 2)))]),Bx])]=z->ak call [zF (.int c),zF (.int (k:Int)),zF (.int (m:Int)),zF (.int w),zF (.int b),zF (.int s),zF (.int F),zF (.int V),zT (.lst (bx m λj=>q4 (jt s F V W j))),o9,o10,o11,o12,none,none] (f_law_thing.body.drop 5)=z:=by
  have mk:=kK b 1000 (by decide)
  have mk2:=kJ (k:Int) 100000000000000 (by omega)
  by_cases hp:w.fmod 2=1
  ·refine⟨(k:Int) * 100000000000000+b,λz hz=>?_⟩
   refine au (false,.int (b * 1000+(k:Int))) (by simp [mk]) ?_
   refine iK (x:=false) (by simp [d2,hp]) (au (false,.int ((k:Int) * 100000000000000+b)) (by simp [p14,mk2]) rfl) hz
  ·refine⟨b * 1000+(k:Int),λz hz=>?_⟩
   refine au (false,.int (b * 1000+(k:Int))) (by simp [mk]) ?_
   exact bJ (x:=false) (by simp [d2];exact hp) hz
 have x3:=dH (w.fdiv 2) 2 (by decide)
 obtain⟨G,hG,eG⟩:∃G:Int,(0<G/\G<=65536)/\bu (.lst [.int 4,.int 65536]) (.int ((w.fdiv 2).fmod 2))=zF (.int G):=by
  refine⟨_,?_,qTE 4 65536 _ x3⟩
  rcases w4 x3 with e|e<;>rw [e]<;>decide
 have m3:∀x,h9 2 x=true:=λx=>kJ 2 x (by decide)
 have r1:=dr s 28 (2 * F+1) hs (by omega) (by omega)
 have r2:=dr s 35 G hs (by omega) (by omega)
 have b2:=pA s 35 G (by omega)
 refine⟨⟨hd,jt s F V W,dN s 35 G,dN s 28 (2 * F+1) - F⟩,⟨qPl s F V W hF hV hW,λj=>rfl,by dsimp only;omega⟩,?_⟩
 refine au (false,.int s) (by simp only [aN,pk,ao,ba,aX,aY,aL,bp,aR,aZ,jd,p40,↓reduceIte,bU,d40,lE,m1,m2,ir,es]) ?_
 refine au (false,.int F) (by simp only [dW,fU,fV,fW,eS,sF,gX,iM,aN,pk,ao,ba,aX,aY,aL,bp,aR,aZ,jd,p30,↓reduceIte,lF,iC,iB,Nat.reduceAdd,l3,bU,d3,eF]) ?_
 refine au (false,.int V) (by simp only [dW,fU,fV,fW,eS,sF,gX,iM,aN,pk,ao,ba,aX,aY,aL,bp,aR,aZ,jd,p15,↓reduceIte,dw,d3,iC,iB,Nat.reduceAdd,l3,bU,eV]) ?_
 refine au (true,.lst []) rfl ?_
 refine pQ rfl (jO (by omega)) h ?_
 refine eh _ ?_
 refine au (false,.int (dN s 28 (2 * F+1) - F)) (by simp [m3,r1]) ?_
 exact aE (by simp [l2,d2,eG,r2,l4];rfl) rfl
end
end Dw.T
namespace Dw.T
open Dw PySem
theorem rQ (l:List Int):dY (l.map .int)=some l:=by have:=uq (λi:Int=>i) l;rwa [List.map_id'] at this
def gA (l:List Int):Int:=(j6 l).getD 0
def gw (l:List Int):Int:=(j3 l).getD 0
theorem wg:∀(r:List Int) (a:Int),(r.foldl (λm x=>if x<m then x else m) a=a∨r.foldl (λm x=>if x<m then x else m) a∈r)/\r.foldl (λm x=>if x<m then x else m) a<=a/\∀y∈r,r.foldl (λm x=>if x<m then x else m) a<=y
 | [],a=>⟨.inl rfl,lS _,λy hy=>(nomatch hy)⟩
 | x::r,a=>by
  rw [lY]
  obtain⟨h1,h2,h3⟩:=wg r (if x<a then x else a)
  refine⟨?_,?_,λy hy=>?_⟩
  ·rcases h1 with h1|h1
   ·rw [h1]
    split
    ·exact .inr bh
    ·exact .inl rfl
   ·exact .inr (bC _ h1)
  ·refine kB h2 ?_
   split<;>omega
  ·rcases yag.mp hy with rfl|hy
   ·refine kB h2 ?_
    split<;>omega
   ·exact h3 y hy
theorem wJ:∀(r:List Int) (a:Int),(r.foldl (λm x=>if m<x then x else m) a=a∨r.foldl (λm x=>if m<x then x else m) a∈r)/\a<=r.foldl (λm x=>if m<x then x else m) a/\∀y∈r,y<=r.foldl (λm x=>if m<x then x else m) a
 | [],a=>⟨.inl rfl,lS _,λy hy=>(nomatch hy)⟩
 | x::r,a=>by
  rw [lY]
  obtain⟨h1,h2,h3⟩:=wJ r (if a<x then x else a)
  refine⟨?_,?_,λy hy=>?_⟩
  ·rcases h1 with h1|h1
   ·rw [h1]
    split
    ·exact .inr bh
    ·exact .inl rfl
   ·exact .inr (bC _ h1)
  ·refine kB ?_ h2
   split<;>omega
  ·rcases yag.mp hy with rfl|hy
   ·refine kB ?_ h2
    split<;>omega
   ·exact h3 y hy
theorem jH {l:List Int}(h:l≠[]):j6 l=some (gA l)/\gA l∈l/\∀y∈l,gA l<=y:=by
 cases l with
 | nil=>exact Qn rfl h
 | cons a r =>
  obtain⟨h1,h2,h3⟩:=wg r a
  refine⟨rfl,?_,λy hy=>?_⟩
  ·show r.foldl _ a∈_
   rcases h1 with h1|h1
   ·rw [h1];exact bh
   ·exact bC _ h1
  ·show r.foldl _ a<=_
   rcases yag.mp hy with rfl|hy
   ·exact h2
   ·exact h3 y hy
theorem jI {l:List Int}(h:l≠[]):j3 l=some (gw l)/\gw l∈l/\∀y∈l,y<=gw l:=by
 cases l with
 | nil=>exact Qn rfl h
 | cons a r =>
  obtain⟨h1,h2,h3⟩:=wJ r a
  refine⟨rfl,?_,λy hy=>?_⟩
  ·show r.foldl _ a∈_
   rcases h1 with h1|h1
   ·rw [h1];exact bh
   ·exact bC _ h1
  ·show _<=r.foldl _ a
   rcases yag.mp hy with rfl|hy
   ·exact h2
   ·exact h3 y hy
theorem oK {l:List Int}(h:l≠[]):cK .min [.lst (l.map .int)]=zF (.int (gA l)):=by
 rw [qLd]
 exact qH9 (rQ l) (jH h).1
theorem oJ {l:List Int}(h:l≠[]):cK .max [.lst (l.map .int)]=zF (.int (gw l)):=by
 rw [qLe,rQ,bL,(jI h).1]
 rfl
noncomputable def cC (f:Q4->Int) (ts:List Th) (j:Nat):List Int:=ts.map λu=>f (u.sw j)
def s0 (q:Q4):Int:=q.1
def s1 (q:Q4):Int:=q.2.1
def s2 (q:Q4):Int:=q.2.2.1
def gH (ts:List Th) (j:Nat):Q4:=(gA (cC s0 ts j),gw (cC s1 ts j),gA (cC s2 ts j),gw (cC s2 ts j))
def gG (ts:List Th) (j:Nat):Q4:=(gw (cC s0 ts j),gA (cC s1 ts j),gw (cC s2 ts j),gA (cC s2 ts j))
theorem dI {f:Q4->Int}{ts:List Th}(h:ts≠[]) (j:Nat):cC f ts j≠[]:=by
 cases ts with
 | nil=>exact Qn rfl h
 | cons u ts=>exact List.cons_ne_nil _ _
theorem k4 {f:Q4->Int}{ts:List Th}{j:Nat}{x:Int}(h:x∈cC f ts j):∃u∈ts,x=f (u.sw j):=by
 obtain⟨u,hu,e⟩:=yaN.mp h
 exact⟨u,hu,e.symm⟩
theorem kX {f:Q4->Int}{ts:List Th}(j:Nat) {u:Th}(h:u∈ts):f (u.sw j)∈cC f ts j:=yaN.mpr ⟨u,h,rfl⟩
theorem qMy {ts:List Th}(hn:ts≠[]) (ok:∀u∈ts,ThW u):eN (gH ts)/\eN (gG ts)/\∀u∈ts,∀j,nq (gH ts j) (u.sw j)/\nq (u.sw j) (gG ts j):=by
 have key:∀j,∃a b c d e f:Th,(a∈ts/\b∈ts/\c∈ts/\d∈ts/\e∈ts/\f∈ts)/\gA (cC s0 ts j)=(a.sw j).1/\gw (cC s1 ts j)=(b.sw j).2.1/\gA (cC s2 ts j)=(c.sw j).2.2.1/\gw (cC s2 ts j)=(d.sw j).2.2.1/\gw (cC s0 ts j)=(e.sw j).1/\gA (cC s1 ts j)=(f.sw j).2.1:=λj=>by
  obtain⟨a,ha,ea⟩:=k4 (jH (dI (f:=s0) hn j)).2.1
  obtain⟨b,hb,eb⟩:=k4 (jI (dI (f:=s1) hn j)).2.1
  obtain⟨c,hc,ec⟩:=k4 (jH (dI (f:=s2) hn j)).2.1
  obtain⟨d,hd,ed⟩:=k4 (jI (dI (f:=s2) hn j)).2.1
  obtain⟨e,he,ee⟩:=k4 (jI (dI (f:=s0) hn j)).2.1
  obtain⟨f,hf,ef⟩:=k4 (jH (dI (f:=s1) hn j)).2.1
  exact⟨a,b,c,d,e,f,⟨ha,hb,hc,hd,he,hf⟩,ea,eb,ec,ed,ee,ef⟩
 refine⟨λj=>?_,λj=>?_,λu hu j=>?_⟩
 ·obtain⟨a,b,c,d,e,f,⟨ha,hb,hc,hd,he,hf⟩,ea,eb,ec,ed,ee,ef⟩:=key j
  unfold gH
  rw [ea,eb,ec,ed]
  have h1:=(ok a ha).ok j
  have h2:=(ok b hb).ok j
  have h3:=(ok c hc).ok j
  have h4:=(ok d hd).ok j
  exact⟨h1.1,h2.2.1,h3.2.2.1,h4.2.2.1⟩
 ·obtain⟨a,b,c,d,e,f,⟨ha,hb,hc,hd,he,hf⟩,ea,eb,ec,ed,ee,ef⟩:=key j
  unfold gG
  rw [ee,ef,ec,ed]
  have h1:=(ok e he).ok j
  have h2:=(ok f hf).ok j
  have h3:=(ok c hc).ok j
  have h4:=(ok d hd).ok j
  exact⟨h1.1,h2.2.1,h4.2.2.1,h3.2.2.1⟩
 ·have a1:=(jH (dI (f:=s0) hn j)).2.2 _ (kX j hu)
  have a2:=(jI (dI (f:=s1) hn j)).2.2 _ (kX j hu)
  have a3:=(jH (dI (f:=s2) hn j)).2.2 _ (kX j hu)
  have a4:=(jI (dI (f:=s2) hn j)).2.2 _ (kX j hu)
  have a5:=(jI (dI (f:=s0) hn j)).2.2 _ (kX j hu)
  have a6:=(jH (dI (f:=s1) hn j)).2.2 _ (kX j hu)
  have sp:=(ok u hu).sp j
  refine⟨⟨a1,a2,a3,?_⟩,⟨a5,a6,a4,?_⟩⟩
  ·rw [sp];exact a4
  ·rw [sp];exact a3
theorem u7 (m:Nat) (u:Th):bu (ae m u) (.int 0)=zF (.int u.hd):=rfl
theorem th1 (m:Nat) (u:Th):bu (ae m u) (.int 1)=zF (cW m u.sw):=rfl
theorem th2 (m:Nat) (u:Th):bu (ae m u) (.int 2)=zF (.int u.mr):=rfl
theorem th3 (m:Nat) (u:Th):bu (ae m u) (.int 3)=zF (.int u.wo):=rfl
theorem qSw (m:Nat) (c:Fr) {j:Nat}(h:j<m):bu (cW m c) (.int (j:Int))=zF (q4 (c j)):=qKF _ h
section
variable {call:Nat->List D->Option R}
theorem rF (m:Nat) (ts:List Th) {j:Nat}(hj:j<m) (f:Q4->Int) (i:Int) (hf:∀q,bu (q4 q) (.int i)=zF (.int (f q))) (rest:En) (o1 o2:Option R) :
  aa call (zF (.lst (ts.map (ae m)))::o1::o2::zF (.int (j:Int))::rest) (.compS (.ix (.ix (.ix V0 (kI 1)) V1) (kI i)) 1 [3] (.one 0) V0)=zT (.lst ((cC f ts j).map .int)):=by
 refine gT (r:=(false,.lst (ts.map (ae m)))) rfl rfl rfl ?_
 rw [show (cC f ts j).map D.int=ts.map λu=>.int (f (u.sw j)) by unfold cC;rw [List.map_map];rfl]
 refine fO call _ (ae m) (λu=>.int (f (u.sw j))) ts λu _=>⟨[zF (ae m u),zF (.int (j:Int))],false,rfl,?_⟩
 have h1:=qSw m u.sw hj
 have h2:=hf (u.sw j)
 exact ck (gQ (r:=(false,q4 (u.sw j))) (ck (gQ (r:=(false,cW m u.sw)) (ck rfl rfl rfl)) rfl h1)) rfl h2
theorem qOT (m:Nat) (ts:List Th) (ok:∀u∈ts,ThW u) (hm:m<=3) :
  ∃o:Option To,GO o ts/\lO o/\ak call [zF (.lst (ts.map (ae m))),none,none,none,none,none,none,none,none,none,none] f_law_told.body=some (.rt (false,aO m o)):=by
 have hlen:∀rest:En,aa call (zF (.lst (ts.map (ae m)))::rest) (.cmp .eq (.bi .len [V0]) (kI 0))=zF (.bl (decide (ts.length=0))):=λrest=>by
  refine cP (dX (r:=(false,.int (ts.length:Int))) (cG rfl ?_)) rfl ?_
  ·show some (false,D.int (((ts.map (ae m)).length:Nat):Int))=_
   rw [aC]
  ·show zF (D.bl ((ts.length:Int) == 0))=_
   congr 3
   by_cases h:ts.length=0
   ·rw [h];rfl
   ·rw [Qj h];exact beq_eq_false_iff_ne.mpr (by omega)
 by_cases hn:ts=[]
 ·refine⟨none,hn,(λx h=>(nomatch h)),?_⟩
  refine eQ (by rw [hlen];rw [hn];rfl) (aE rfl rfl) rfl
 ·obtain⟨g1,g2,g3⟩:=qMy hn ok
  obtain⟨Z',h,o3,o5,o6,o7,rfl⟩:=jX (call:=call) (tg:=.one 3) (body:=Al)
   (λi Z=>∃(o3 o5 o6 o7:Option R),Z=[zF (.lst (ts.map (ae m))),zT (.lst (bx i λj=>q4 (gH ts j))),zT (.lst (bx i λj=>q4 (gG ts j))),o3,none,o5,o6,o7,none,none,none]) m (λi=>.int (i:Nat))
   [zF (.lst (ts.map (ae m))),zT (.lst []),zT (.lst []),none,none,none,none,none,none,none,none] ⟨none,none,none,none,rfl⟩ (by
    rintro i Z hi ⟨o3,o5,o6,o7,rfl⟩
    refine⟨[zF (.lst (ts.map (ae m))),zT (.lst (bx i λj=>q4 (gH ts j))),zT (.lst (bx i λj=>q4 (gG ts j))),zF (.int (i:Int)),none,o5,o6,o7,none,none,none],_,rfl,?_,zF (.int (i:Int)),zF (.lst ((cC s0 ts i).map .int)),zF (.lst ((cC s1 ts i).map .int)),zF (.lst ((cC s2 ts i).map .int)),rfl⟩
    refine au _ (rF m ts hi s0 0 uK _ _ _) ?_
    refine au _ (rF m ts hi s1 1 uJ _ _ _) ?_
    refine au _ (rF m ts hi s2 2 uI _ _ _) ?_
    have l4:4<=lim:=cJ (by decide)
    have a1:=oK (dI (f:=s0) hn i)
    have a2:=oJ (dI (f:=s0) hn i)
    have a3:=oK (dI (f:=s1) hn i)
    have a4:=oJ (dI (f:=s1) hn i)
    have a5:=oK (dI (f:=s2) hn i)
    have a6:=oJ (dI (f:=s2) hn i)
    refine jR (false,q4 (gH ts i)) (by simp only [dW,fU,fV,fW,nL,jS,gX,iM,fJ,eI,gh,pk,ao,ba,aX,aY,aL,aZ,a1,a4,a5,a6,iC,iB,Nat.reduceAdd,l4,↓reduceIte];rfl) rfl (jN (by rw [lr];omega)) ?_
    refine jR (false,q4 (gG ts i)) (by simp only [dW,fU,fV,fW,nL,jS,gX,iM,fJ,eI,gh,pk,ao,ba,aX,aY,aL,aZ,a2,a3,a5,a6,iC,iB,Nat.reduceAdd,l4,↓reduceIte];rfl) rfl (jN (by rw [lr];omega)) ?_
    rw [pK,pK]
    rfl)
  obtain⟨Z2,h2,o4,a,b,ha,hb,rfl⟩:=iq (call:=call) (tg:=.one 4) (body:=Aw)
   (λk Z=>∃(o4:Option R) (a b:Int),0<=a/\0<=b/\Z=[zF (.lst (ts.map (ae m))),zT (.lst (bx m λj=>q4 (gH ts j))),zT (.lst (bx m λj=>q4 (gG ts j))),o3,o4,o5,o6,o7,zF (.int a),zF (.int b),none]) (ts.map (ae m)) 0
   [zF (.lst (ts.map (ae m))),zT (.lst (bx m λj=>q4 (gH ts j))),zT (.lst (bx m λj=>q4 (gG ts j))),o3,none,o5,o6,o7,zF (.int 0),zF (.int 65535),none] ⟨none,0,65535,by decide,by decide,rfl⟩ (by
    rintro k d Z hk ⟨o4,a,b,ha,hb,rfl⟩
    rw [cu] at hk
    obtain⟨u,hu,rfl⟩:=yad.mp hk
    have hm:=(ok u (cj hu)).mr
    have e2:=th2 m u
    refine⟨[zF (.lst (ts.map (ae m))),zT (.lst (bx m λj=>q4 (gH ts j))),zT (.lst (bx m λj=>q4 (gG ts j))),o3,zF (ae m u),o5,o6,o7,zF (.int a),zF (.int b),none],_,rfl,?_,zF (ae m u),((a.toNat ||| u.mr.toNat:Nat):Int),((b.toNat &&& u.mr.toNat:Nat):Int),by omega,by omega,rfl⟩
    have c1:0<=a/\0<=u.mr:=⟨ha,hm.1⟩
    have c2:0<=b/\0<=u.mr:=⟨hb,hm.1⟩
    refine au (false,.int ((a.toNat ||| u.mr.toNat:Nat):Int)) (by simp only [aN,pk,ao,ba,aX,aY,aL,eS,bp,aR,aZ,e2,qLa,c1,and_self,↓reduceIte]) ?_
    exact au (false,.int ((b.toNat &&& u.mr.toNat:Nat):Int)) (by simp only [dW,fU,fV,fW,aN,pk,ao,ba,aX,aY,aL,eS,bp,aR,aZ,e2,qJe,c2,and_self,↓reduceIte]) rfl)
  have hne:(ts.map λu=>u.wo)≠[]:=by
   cases ts with
   | nil=>exact Qn rfl hn
   | cons u ts=>exact List.cons_ne_nil _ _
  refine⟨some ⟨gH ts,gG ts,[.int a,.int b,.int (ts.length:Int),.int (gA (ts.map λu=>u.wo)),.int (gw (ts.map λu=>u.wo)),.int (ts.map λu=>u.wo).sum]⟩,⟨g1,g2,g3⟩,λx h=>by injection h with h;subst h;rfl,?_⟩
  refine bJ (by rw [hlen,Qj (by intro h;exact hn (ybk.mp h))]) ?_
  refine au (true,.lst []) rfl (au (true,.lst []) rfl ?_)
  have hm':bY call [zF (.lst (ts.map (ae m))),zT (.lst []),zT (.lst []),none,none,none,none,none,none,none,none] [(.bi .len [(.ix (.ix V0 (kI 0)) (kI 1))])]=some [.int (m:Int)]:=by
   cases ts with
   | nil=>exact Qn rfl hn
   | cons u ts =>
    have e0:=jL ((u::ts).map (ae m)) 0 (ae m u) rfl
    have e1:=th1 m u
    have e3:cK .len [cW m u.sw]=zF (.int (m:Int)):=by show some (false,D.int (((bx m λj=>q4 (u.sw j)).length:Nat):Int))=_;rw [lr]
    have q0:aa call [zF (.lst ((u::ts).map (ae m))),zT (.lst []),zT (.lst []),none,none,none,none,none,none,none,none] (.ix V0 (kI 0))=zF (ae m u):=ck rfl rfl e0
    have q1:aa call [zF (.lst ((u::ts).map (ae m))),zT (.lst []),zT (.lst []),none,none,none,none,none,none,none,none] (.ix (.ix V0 (kI 0)) (kI 1))=zF (cW m u.sw):=ck (gQ q0) rfl e1
    have q2:aa call [zF (.lst ((u::ts).map (ae m))),zT (.lst []),zT (.lst []),none,none,none,none,none,none,none,none] (.bi .len [(.ix (.ix V0 (kI 0)) (kI 1))])=zF (.int (m:Int)):=cG (gQ q1) e3
    rw [eI,dX q2]
    rfl
  refine pQ hm' (jO (by omega)) h ?_
  refine au (false,.int 0) rfl (au (false,.int 65535) rfl ?_)
  refine jf (r:=(false,.lst (ts.map (ae m)))) rfl rfl h2 ?_
  have hc:aa call [zF (.lst (ts.map (ae m))),zT (.lst (bx m λj=>q4 (gH ts j))),zT (.lst (bx m λj=>q4 (gG ts j))),o3,o4,o5,o6,o7,zF (.int a),zF (.int b),none] (.compS (.ix V0 (kI 3)) 1 [] (.one 0) V0)=zT (.lst ((ts.map λu=>u.wo).map .int)):=by
   refine gT (r:=(false,.lst (ts.map (ae m)))) rfl rfl rfl ?_
   rw [List.map_map]
   exact fO call _ (ae m) _ ts λu _=>⟨[zF (ae m u)],false,rfl,ck rfl rfl (th3 m u)⟩
  refine au _ hc ?_
  have a1:=oK hne
  have a2:=oJ hne
  have a3:cK .sum [.lst ((ts.map λu=>u.wo).map .int)]=zF (.int (ts.map λu=>u.wo).sum):=by rw [xT,rQ];rfl
  have a4:cK .len [.lst (ts.map (ae m))]=zF (.int (ts.length:Int)):=by rw [fM,aC]
  have l8:8<=lim:=cJ (by decide)
  exact aE (by simp only [eM,dW,fU,fV,fW,nL,jS,gX,iM,fJ,eI,gh,pk,ao,ba,aX,aY,aL,aZ,aR,vS,kP,qLc,a1,a2,a3,a4,iC,iB,Nat.reduceAdd,l8,↓reduceIte];rfl) rfl
end
end Dw.T
namespace Dw.T
open Dw PySem
def ct (n q k:Nat):Nat:=n * k / q
theorem tD (n q:Nat):ct n q 0=0:=by unfold ct;rw [Nat.mul_zero,Nat.zero_div]
theorem xI (n q:Nat) (h:0<q):ct n q q=n:=Nat.mul_div_cancel _ h
theorem yd (n q k:Nat):ct n q k<=ct n q (k+1):=Nat.div_le_div_right (Nat.mul_le_mul_left _ (Nat.le_succ _))
def aW (n q:Nat):List D:=bx (q+1) λk=>.int (ct n q k:Nat)
theorem qKZ (n q:Nat):fF (aW n q) none (some (-1))=bx q λk=>.int (ct n q k:Nat):=by
 have hl:(aW n q).length=q+1:=by unfold aW;rw [lr]
 simp only [fF,gI,cutAt,hl]
 rw [Ql (by decide)]
 unfold aW
 rw [pK]
 have:(-1+((q:Int)+1)).toNat=q:=by omega
 simp [bx,this]
theorem qKX (n q:Nat):fF (aW n q) (some 1) none=bx q λk=>.int (ct n q (k+1):Nat):=by
 have hl:(aW n q).length=q+1:=by unfold aW;rw [lr]
 simp only [fF,gI,cutAt,hl]
 rw [Qm (by decide)]
 unfold aW bx
 rw [List.range_succ_eq_map,cT,List.map_map]
 have h1:min ((1:Int).toNat) (q+1)=1:=by simp
 simp
 rw [dF (by simp)]
 rfl
def rD (m:Nat) (p:Tr):D:=.tup [ah m p,.lst ((und p).map (ae m))]
theorem vO (m:Nat) (p:Tr):bu (rD m p) (.int 0)=zF (ah m p):=rfl
theorem rD1 (m:Nat) (p:Tr):bu (rD m p) (.int 1)=zF (.lst ((und p).map (ae m))):=rfl
theorem sT:∀a b:List Tr,bW (a++b)=bW a+bW b
 | [],b=>by rw [bW];simp
 | p::a,b=>by rw [qH,bW,bW,sT a b,Nat.add_assoc]
theorem xi {k:Nat}:∀ps:List Tr,(∀p∈ps,hg p<=k)->j7 ps<=k
 | [],_=>by rw [j7];exact fx _
 | p::ps,h=>by
  rw [j7]
  have h1:=h p bh
  have h2:=xi ps λq hq=>h q (bC _ hq)
  omega
theorem zk:∀ps:List Tr,(∀p∈ps,Good p)->Goods ps
 | [],_=>by rw [Goods];trivial
 | p::ps,h=>by
  rw [Goods]
  exact⟨h p bh,zk ps λq hq=>h q (bC _ hq)⟩
theorem yD {α:Type}(l:List α) {a b:Nat}(h:a<=b):l.take b=l.take a++(l.drop a).take (b - a):=by
 obtain⟨c,rfl⟩:=Nat.le.dest h
 rw [List.take_add,f6]
def qTQ (call:Nat->List D->Option R) (R:Int):Prop:=∀(n:Nat) (x:Int),n<=100->0<=x->∃q:Nat,1<=q/\(2<=n->2 * q<=n)/\(n<=1->q=1)/\call 33 [.int (n:Int),.int R,.int x]=zT (.lst (aW n q))
def rL (call:Nat->List D->Option R) (m:Nat):Prop:=∀ts:List Th,(∀u∈ts,ThW u)->∃o:Option To,GO o ts/\lO o/\call 32 [.lst (ts.map (ae m))]=zF (aO m o)
section
variable {call:Nat->List D->Option R}
theorem yg {Z:En}{f:Nat}{a:C}{x:D}{r:Option R}(ha:ag Z a (aa call Z a)=some x) (hc:call f [x]=r):aa call Z (.call f [a])=r:=by
 rw [mP,jT,ha]
 exact hc
theorem qSU {Z:En}{a:C}{lo hi:Option C}{r:R}(h:aa call Z (.sl a lo hi)=some r):ag Z (.sl a lo hi) (aa call Z (.sl a lo hi))=some r.2:=by rw [h];rfl
theorem qO1 (n:Nat) (R x:Int) (hn:n<=100) (hR:R=4∨R=5∨R=6∨R=7) (hx:0<=x) :
  ∃q:Nat,1<=q/\(2<=n->2 * q<=n)/\(n<=1->q=1)/\ak call [zF (.int (n:Int)),zF (.int R),zF (.int x),none,none,none] f_law_cuts.body=some (.rt (true,.lst (aW n q))):=by
 obtain⟨a,ha,ea⟩:∃a:Nat,(1<=a/\(2<=n->2 * a<=n)/\(n<=1->a=1))/\max 1 (((n:Int)+R - 1).fdiv R)=(a:Int):=by
  refine⟨(max 1 (((n:Int)+R - 1).fdiv R)).toNat,?_,?_⟩
  ·rw [jj _ (by omega)]
   rcases hR with rfl|rfl|rfl|rfl<;>omega
  ·omega
 obtain⟨b,hb,eb⟩:∃b:Nat,(a<=b/\(2<=n->2 * b<=n)/\(n<=1->b=1))/\max (a:Int) ((n:Int).fdiv (R.fdiv 2))=(b:Int):=by
  have e2:R.fdiv 2=R / 2:=jj _ (by decide)
  have e3:R / 2=2∨R / 2=3:=by rcases hR with rfl|rfl|rfl|rfl<;>decide
  rw [e2]
  refine⟨(max (a:Int) ((n:Int).fdiv (R / 2))).toNat,?_,?_⟩
  ·rw [jj _ (by omega)]
   rcases e3 with e3|e3<;>rw [e3]<;>omega
  ·omega
 have dR:aT R=true:=jx R (by omega) (by omega)
 have d2:aT 2=true:=by decide
 have e3:R.fdiv 2=2∨R.fdiv 2=3:=by rcases hR with rfl|rfl|rfl|rfl<;>decide
 have dh:aT (R.fdiv 2)=true:=by rcases e3 with e|e<;>rw [e]<;>decide
 have bm:=dH x ((b:Int) - (a:Int)+1) (by omega)
 have dm:aT ((b:Int) - (a:Int)+1)=true:=jx _ (by omega) (by omega)
 obtain⟨q,hq,eq⟩:∃q:Nat,(a<=q/\q<=b)/\(a:Int)+x.fmod ((b:Int) - (a:Int)+1)=(q:Int):=⟨((a:Int)+x.fmod ((b:Int) - (a:Int)+1)).toNat,by omega,by omega⟩
 refine⟨q,by omega,λh=>by omega,λh=>by omega,?_⟩
 refine au (false,.int (a:Int)) (by simp only [fJ,eI,gh,aN,pk,ao,ba,aX,aY,aL,bp,aR,aZ,ir,lF,dw,dR,↓reduceIte,tu,ea]) ?_
 refine au (false,.int (b:Int)) (by simp only [dW,fU,fV,fW,fJ,eI,gh,aN,pk,ao,ba,aX,aY,aL,bp,aR,aZ,dw,d2,dh,↓reduceIte,tu,eb]) ?_
 refine au (false,.int (q:Int)) (by simp only [dW,fU,fV,fW,aN,pk,ao,ba,aX,aY,aL,bp,aR,aZ,ir,lF,bU,dm,↓reduceIte,eq]) ?_
 have hc:aa call [zF (.int (n:Int)),zF (.int R),zF (.int x),zF (.int (a:Int)),zF (.int (b:Int)),zF (.int (q:Int))] (.compR (.bin .fdiv (.bin .mul V2 V0) V1) 1 [5,0] (.one 0) [(.bin .add V5 (kI 1))])=zT (.lst (aW n q)):=by
  refine tF (ds:=[.int ((q+1:Nat):Int)]) (Z':=[none,zF (.int (q:Int)),zF (.int (n:Int))]) rfl (jO (by omega)) (by rw [aC,List.length_range];exact cJ (by omega)) rfl ?_
  refine y6 (r:=[zF (.int (q:Int)),zF (.int (n:Int))]) (λk=>.int (ct n q k:Nat)) λj hj=>⟨false,?_⟩
  have m1:=kJ (n:Int) (j:Int) (by omega)
  have dq:aT (q:Int)=true:=jx _ (by omega) (by omega)
  have e:((n:Int) * (j:Int)).fdiv (q:Int)=((ct n q j:Nat):Int):=by
   rw [jj _ (by omega)]
   unfold ct
   rw [Int.natCast_ediv,Int.natCast_mul]
  simp only [aN,pk,ao,ba,aX,aY,aL,aZ,aR,lE,m1,↓reduceIte,dw,dq,e]
 exact aE hc rfl
structure Rws (ts:List Th) (rows:List Tr):Prop where
 ne:1<=rows.length
 good:∀p∈rows,Good p
 und:aA rows=ts
 few:bW rows+rows.length<=120
 high:∃h,(∀p∈rows,hg p<=h)/\rows.length * 2^h<=60
theorem qJN (m:Nat) (ts:List Th) (rm x:Int) (q:Nat) (hq:1<=q) (hl:ts.length<=60) (hq2:q<=60) (ok:∀u∈ts,ThW u) (told:rL call m) :
  ∃(ls:List Tr) (o5 o6:Option R),ls.length=q/\(∀p∈ls,Good p/\hg p=0/\nd p=1)/\aA ls=ts/\bV call uy (.two 5 6) ((List.range q).map λk=>.tup [.int (ct ts.length q k:Nat),.int (ct ts.length q (k+1):Nat)]) [zF (.lst (ts.map (ae m))),zF (.int rm),zF (.int x),zT (.lst []),zF (.lst (aW ts.length q)),none,none,none,none,none]=some (.nx [zF (.lst (ts.map (ae m))),zF (.int rm),zF (.int x),zT (.lst (ls.map (rD m))),zF (.lst (aW ts.length q)),o5,o6,none,none,none]):=by
 obtain⟨Z',h,ls,o5,o6,h1,h2,h3,rfl⟩:=jX (call:=call) (tg:=.two 5 6) (body:=uy)
  (λk Z=>∃(ls:List Tr) (o5 o6:Option R),ls.length=k/\(∀p∈ls,Good p/\hg p=0/\nd p=1)/\aA ls=ts.take (ct ts.length q k)/\Z=[zF (.lst (ts.map (ae m))),zF (.int rm),zF (.int x),zT (.lst (ls.map (rD m))),zF (.lst (aW ts.length q)),o5,o6,none,none,none])
  q (λk=>.tup [.int (ct ts.length q k:Nat),.int (ct ts.length q (k+1):Nat)])
  [zF (.lst (ts.map (ae m))),zF (.int rm),zF (.int x),zT (.lst []),zF (.lst (aW ts.length q)),none,none,none,none,none] ⟨[],none,none,rfl,(λp hp=>(nomatch hp)),by rw [tD,jn,aA],rfl⟩ (by
   rintro k Z hk ⟨ls,o5,o6,h1,h2,h3,rfl⟩
   have hab:=yd ts.length q k
   generalize ct ts.length q k=a at *
   generalize ct ts.length q (k+1)=b at *
   have hW:∀u∈(ts.drop a).take (b - a),ThW u:=λu hu=>ok u (kv (ku hu))
   obtain⟨o,g1,g2,e⟩:=told ((ts.drop a).take (b - a)) hW
   have hsl:∀o5 o6:Option R,aa call [zF (.lst (ts.map (ae m))),zF (.int rm),zF (.int x),zT (.lst (ls.map (rD m))),zF (.lst (aW ts.length q)),zF (.int (a:Int)),zF (.int (b:Int)),none,none,none] (.sl V0 (some V5) (some V6))=zT (.lst (((ts.drop a).take (b - a)).map (ae m))):=λ_ _=>by
    have c:=tE (ts.map (ae m)) a b hab
    rw [<-List.map_drop,<-List.map_take] at c
    show zT (.lst (fF (ts.map (ae m)) (some (a:Int)) (some (b:Int))))=_
    rw [c]
   have tk:=yD ts hab
   generalize (ts.drop a).take (b - a)=g at *
   refine⟨[zF (.lst (ts.map (ae m))),zF (.int rm),zF (.int x),zT (.lst (ls.map (rD m))),zF (.lst (aW ts.length q)),zF (.int (a:Int)),zF (.int (b:Int)),none,none,none],_,rfl,?_,ls++[.leaf o g],zF (.int (a:Int)),zF (.int (b:Int)),by rw [bf,h1];rfl,λp hp=>?_,?_,rfl⟩
   ·have q1:=hsl none none
    have q2:aa call [zF (.lst (ts.map (ae m))),zF (.int rm),zF (.int x),zT (.lst (ls.map (rD m))),zF (.lst (aW ts.length q)),zF (.int (a:Int)),zF (.int (b:Int)),none,none,none] (.call 32 [(.sl V0 (some V5) (some V6))])=zF (aO m o):=by
     exact yg (qSU q1) e
    have q3:aa call [zF (.lst (ts.map (ae m))),zF (.int rm),zF (.int x),zT (.lst (ls.map (rD m))),zF (.lst (aW ts.length q)),zF (.int (a:Int)),zF (.int (b:Int)),none,none,none] (.bi .tuple [(.sl V0 (some V5) (some V6))])=zF (.tup (g.map (ae m))):=cG (eO q1) rfl
    rw [List.map_append]
    refine jR (false,rD m (.leaf o g)) ?_ rfl (jN (by rw [aC];omega)) rfl
    rw [iO,dC,iO,dC,show aa call [zF (.lst (ts.map (ae m))),zF (.int rm),zF (.int x),zT (.lst (ls.map (rD m))),zF (.lst (aW ts.length q)),zF (.int (a:Int)),zF (.int (b:Int)),none,none,none] (.k (tx "leaf"))=zF (tx "leaf") from rfl,bL,dC,q2,bL,dC,q3,bL]
    rw [dC,q1]
    rfl
   ·rcases yaA.mp hp with hp|hp
    ·exact h2 p hp
    ·rw [yaB.mp hp]
     refine⟨?_,by rw [hg],by rw [nd]⟩
     rw [Good]
     exact⟨⟨g1,g2⟩,λu hu=>(hW u hu).ok⟩
   ·rw [je,h3,aA,aA,und,cL,tk])
 rw [xI _ _ hq,dF (ar _)] at h3
 exact⟨ls,o5,o6,h1,h2,h3,h⟩
end
end Dw.T
namespace Dw.T
open Dw PySem
section
variable {call:Nat->List D->Option R}
theorem qMK (m:Nat) (g:List Tr) (hl:(aA g).length<=1000) (a0 a1 a2 a3 a4 a5 a6 a7 a9:Option R) :
  ∃o9:Option R,bV call uw (.one 9) (g.map (rD m)) [a0,a1,a2,a3,a4,a5,a6,a7,zF (.lst []),a9]=some (.nx [a0,a1,a2,a3,a4,a5,a6,a7,zF (.lst ((aA g).map (ae m))),o9]):=by
 obtain⟨Z',h,o9,rfl⟩:=iq (call:=call) (tg:=.one 9) (body:=uw)
  (λk Z=>∃o9:Option R,Z=[a0,a1,a2,a3,a4,a5,a6,a7,zF (.lst ((aA (g.take k)).map (ae m))),o9]) (g.map (rD m)) 0
  [a0,a1,a2,a3,a4,a5,a6,a7,zF (.lst []),a9] ⟨a9,by rw [jn,aA];rfl⟩ (by
   rintro k d Z hk ⟨o9,rfl⟩
   rw [cu] at hk
   obtain⟨p,hp,rfl⟩:=yad.mp hk
   have h1:aA (g.take (0+k+1))=aA (g.take (0+k))++und p:=by rw [cZ,take_one hp,je,aA,aA,cL]
   have h2:=uB g (0+k+1)
   rw [h1,bf] at h2
   refine⟨[a0,a1,a2,a3,a4,a5,a6,a7,zF (.lst ((aA (g.take (0+k))).map (ae m))),zF (rD m p)],_,rfl,?_,zF (rD m p),rfl⟩
   rw [h1,List.map_append]
   refine au (true,.lst ((aA (g.take (0+k))).map (ae m)++(und p).map (ae m))) ?_ rfl
   have e1:=rD1 m p
   simp only [aN,pk,ao,ba,aX,aY,aL,eS,bp,aR,aZ,e1,qJf]
   rw [Ql (cJ (by rw [aC,aC];omega))])
 rw [aC,cZ,dF (ar _)] at h
 exact⟨o9,h⟩
theorem qMI (m:Nat) (ts:List Th) (rm x:Int) (rows:List Tr) (h q:Nat) (f3:Bool) (hq:1<=q) (hq2:q<=60) (hl:ts.length<=60) (ok:∀u∈ts,ThW u) (hu:aA rows=ts) (hg0:∀p∈rows,Good p/\hg p<=h) (told:rL call m) (o5 o6 o8 o9:Option R) :
  ∃(fs:List Tr) (o5' o6' o8' o9':Option R),fs.length=q/\(∀p∈fs,Good p/\hg p<=h+1)/\aA fs=ts/\bW fs=bW rows+q /\
    bV call ux (.two 5 6) ((List.range q).map λk=>.tup [.int (ct rows.length q k:Nat),.int (ct rows.length q (k+1):Nat)]) [zF (.lst (ts.map (ae m))),zF (.int rm),zF (.int x),some (f3,.lst (rows.map (rD m))),zF (.lst (aW rows.length q)),o5,o6,zT (.lst []),o8,o9]
      = some (.nx [zF (.lst (ts.map (ae m))),zF (.int rm),zF (.int x),some (f3,.lst (rows.map (rD m))),zF (.lst (aW rows.length q)),o5',o6',zT (.lst (fs.map (rD m))),o8',o9']):=by
 obtain⟨Z',hh,fs,o5',o6',o8',o9',h1,h2,h3,h4,rfl⟩:=jX (call:=call) (tg:=.two 5 6) (body:=ux)
  (λk Z=>∃(fs:List Tr) (o5 o6 o8 o9:Option R),fs.length=k/\(∀p∈fs,Good p/\hg p<=h+1)/\aA fs=aA (rows.take (ct rows.length q k))/\bW fs=bW (rows.take (ct rows.length q k))+k/\Z=[zF (.lst (ts.map (ae m))),zF (.int rm),zF (.int x),some (f3,.lst (rows.map (rD m))),zF (.lst (aW rows.length q)),o5,o6,zT (.lst (fs.map (rD m))),o8,o9])
  q (λk=>.tup [.int (ct rows.length q k:Nat),.int (ct rows.length q (k+1):Nat)])
  [zF (.lst (ts.map (ae m))),zF (.int rm),zF (.int x),some (f3,.lst (rows.map (rD m))),zF (.lst (aW rows.length q)),o5,o6,zT (.lst []),o8,o9]
  ⟨[],o5,o6,o8,o9,rfl,(λp hp=>(nomatch hp)),by rw [tD,jn],by rw [tD,jn,bW],rfl⟩ (by
   rintro k Z hk ⟨fs,o5,o6,o8,o9,h1,h2,h3,h4,rfl⟩
   have hab:=yd rows.length q k
   generalize ct rows.length q k=a at *
   generalize ct rows.length q (k+1)=b at *
   have tk:=yD rows hab
   have gm:∀p∈(rows.drop a).take (b - a),p∈rows:=λp hp=>kv (ku hp)
   have hsl:∀o8 o9:Option R,aa call [zF (.lst (ts.map (ae m))),zF (.int rm),zF (.int x),some (f3,.lst (rows.map (rD m))),zF (.lst (aW rows.length q)),zF (.int (a:Int)),zF (.int (b:Int)),zT (.lst (fs.map (rD m))),o8,o9] (.sl V3 (some V5) (some V6))=zT (.lst (((rows.drop a).take (b - a)).map (rD m))):=λ_ _=>by
    have c:=tE (rows.map (rD m)) a b hab
    rw [<-List.map_drop,<-List.map_take] at c
    cases f3
    ·show zT (.lst (fF (rows.map (rD m)) (some (a:Int)) (some (b:Int))))=_
     rw [c]
    ·show zT (.lst (fF (rows.map (rD m)) (some (a:Int)) (some (b:Int))))=_
     rw [c]
   generalize (rows.drop a).take (b - a)=g at *
   have hW:∀u∈aA g,ThW u:=λu hu'=>by
    refine ok u ?_
    rw [<-hu]
    clear hsl tk h1 h2 h3 h4
    induction g with
    | nil=>rw [aA] at hu';cases hu'
    | cons p g ih =>
     rw [aA] at hu'
     rcases yaA.mp hu' with h|h
     ·exact qMt (gm p bh) h
     ·exact ih (λp hp=>gm p (bC _ hp)) h
   have hlen:(aA g).length<=1000:=by
    have e1:=congrArg aA tk
    rw [je] at e1
    have e2:=congrArg List.length e1
    rw [bf] at e2
    have e3:=uB rows b
    rw [hu] at e3
    omega
   obtain⟨o,g1,g2,e⟩:=told (aA g) hW
   obtain⟨o9',hb⟩:=qMK (call:=call) m g hlen (zF (.lst (ts.map (ae m)))) (zF (.int rm)) (zF (.int x)) (some (f3,.lst (rows.map (rD m)))) (zF (.lst (aW rows.length q))) (zF (.int (a:Int))) (zF (.int (b:Int))) (zT (.lst (fs.map (rD m)))) o9
   refine⟨[zF (.lst (ts.map (ae m))),zF (.int rm),zF (.int x),some (f3,.lst (rows.map (rD m))),zF (.lst (aW rows.length q)),zF (.int (a:Int)),zF (.int (b:Int)),zT (.lst (fs.map (rD m))),o8,o9],_,rfl,?_,fs++[.fork o g],zF (.int (a:Int)),zF (.int (b:Int)),zF (.lst ((aA g).map (ae m))),o9',by rw [bf,h1];rfl,λp hp=>?_,?_,?_,rfl⟩
   ·refine au (true,.lst []) rfl ?_
    refine jf (hsl _ _) rfl hb ?_
    have q1:=hsl (zF (.lst ((aA g).map (ae m)))) o9'
    have q2:aa call [zF (.lst (ts.map (ae m))),zF (.int rm),zF (.int x),some (f3,.lst (rows.map (rD m))),zF (.lst (aW rows.length q)),zF (.int (a:Int)),zF (.int (b:Int)),zT (.lst (fs.map (rD m))),zF (.lst ((aA g).map (ae m))),o9'] (.call 32 [V8])=zF (aO m o):=e
    have q4:aa call [zF (.lst (ts.map (ae m))),zF (.int rm),zF (.int x),some (f3,.lst (rows.map (rD m))),zF (.lst (aW rows.length q)),zF (.int (a:Int)),zF (.int (b:Int)),zT (.lst (fs.map (rD m))),zF (.lst ((aA g).map (ae m))),o9'] (.compS (.ix V0 (kI 0)) 1 [] (.one 0) (.sl V3 (some V5) (some V6)))=zT (.lst (g.map (ah m))):=
     gT q1 rfl rfl (fO call _ (rD m) (ah m) g λp _=>⟨[zF (rD m p)],false,rfl,ck rfl rfl (vO m p)⟩)
    have q3:aa call [zF (.lst (ts.map (ae m))),zF (.int rm),zF (.int x),some (f3,.lst (rows.map (rD m))),zF (.lst (aW rows.length q)),zF (.int (a:Int)),zF (.int (b:Int)),zT (.lst (fs.map (rD m))),zF (.lst ((aA g).map (ae m))),o9'] (.bi .tuple [(.compS (.ix V0 (kI 0)) 1 [] (.one 0) (.sl V3 (some V5) (some V6)))])=zF (.tup (g.map (ah m))):=cG (eO q4) rfl
    rw [List.map_append]
    refine jR (false,rD m (.fork o g)) ?_ rfl (jN (by rw [aC];omega)) rfl
    have er:rD m (.fork o g)=.tup [.tup [tx "fork",aO m o,.tup (g.map (ah m))],.lst ((aA g).map (ae m))]:=by
     unfold rD
     rw [ah,und,tY]
    rw [er,iO,dC,iO,dC,show aa call [zF (.lst (ts.map (ae m))),zF (.int rm),zF (.int x),some (f3,.lst (rows.map (rD m))),zF (.lst (aW rows.length q)),zF (.int (a:Int)),zF (.int (b:Int)),zT (.lst (fs.map (rD m))),zF (.lst ((aA g).map (ae m))),o9'] (.k (tx "fork"))=zF (tx "fork") from rfl,bL,dC,q2,bL,dC,q3,bL]
    rfl
   ·rcases yaA.mp hp with hp|hp
    ·exact h2 p hp
    ·rw [yaB.mp hp]
     constructor
     ·rw [Good]
      exact⟨⟨g1,g2⟩,zk g λp hp=>(hg0 p (gm p hp)).1⟩
     ·rw [hg]
      have:=xi g λp hp=>(hg0 p (gm p hp)).2
      omega
   ·rw [je,h3,aA,aA,und,cL,tk,je]
   ·rw [sT,h4,bW,bW,nd,tk,sT]
    omega)
 rw [xI _ _ hq,dF (ar _)] at h3 h4
 exact⟨fs,o5',o6',o8',o9',h1,h2,by rw [h3,hu],h4,hh⟩
theorem yO {Z:En}{n q:Nat}(h:ao Z 4=zF (.lst (aW n q))):aa call Z (.sl V4 none (some (.neg (kI 1))))=zT (.lst (bx q λk=>.int (ct n q k:Nat))):=by
 rw [wQ,show pk Z V4 (aa call Z V4)=(ao Z 4).bind aL from rfl,h]
 show zT (D.lst (fF (aW n q) none (some (-1))))=_
 rw [qKZ]
theorem yP {Z:En}{n q:Nat}(h:ao Z 4=zF (.lst (aW n q))):aa call Z (.sl V4 (some (kI 1)) none)=zT (.lst (bx q λk=>.int (ct n q (k+1):Nat))):=by
 rw [wQ,show pk Z V4 (aa call Z V4)=(ao Z 4).bind aL from rfl,h]
 show zT (D.lst (fF (aW n q) (some 1) none))=_
 rw [qKX]
theorem tf {tg:Tg}{a b:C}{body:List S}{x y:R}{xs ys:List D}{Z Z':En}{rest:List S}{z:Option Ou}(ha:aa call Z a=some x) (hb:aa call Z b=some y) (hx:i4 x.2=some xs) (hy:oy y.2=some ys) (hf:bV call body tg (bN xs ys) Z=some (.nx Z')) (k:ak call Z' rest=z):ak call Z (.forZ tg a b body::rest)=z:=by
 rw [qMo,ha,hb]
 dsimp only
 rw [hx,hy]
 dsimp only
 rw [hf]
 exact k
theorem qOS (m:Nat) (ts:List Th) (rm x:Int) (hx:0<=x) (hl:ts.length<=60) (ok:∀u∈ts,ThW u) (told:rL call m) (cuts:qTQ call rm) :
  ∃p:Tr,PpOk ([],p)/\und p=ts/\nd p<=200/\ak call [zF (.lst (ts.map (ae m))),zF (.int rm),zF (.int x),none,none,none,none,none,none,none] f_law_tree.body=some (.rt (false,ah m p)):=by
 obtain⟨q,hq,hq2,hq3,eq⟩:=cuts ts.length x (by omega) hx
 have hq60:q<=30∨q=1:=by
  by_cases h:2<=ts.length
  ·have:=hq2 h;omega
  ·exact .inr (hq3 (by omega))
 obtain⟨ls,o5,o6,l1,l2,l3,lf⟩:=qJN (call:=call) m ts rm x q hq hl (by omega) ok told
 have d7:aT 7=true:=by decide
 have x7:0<=x.fdiv 7:=by rw [jj _ (by decide)];exact nN hx (by decide)
 have nd1:∀ls:List Tr,(∀p∈ls,nd p=1)->bW ls=ls.length:=λls=>by
  induction ls with
  | nil=>intro _;rw [bW];rfl
  | cons p ls ih=>intro h;rw [bW,h p bh,ih λp hp=>h p (bC _ hp),dG];omega
 have r0:Rws ts ls:=⟨by omega,λp hp=>(l2 p hp).1,l3,by rw [nd1 ls λp hp=>(l2 p hp).2.2];omega,0,λp hp=>by rw [(l2 p hp).2.1];exact ar _,by omega⟩
 have loop:=sH (call:=call) (c:=.cmp .gt (.bi .len [V3]) (kI 1)) (body:=Am)
  (λM Z=>∃(f3:Bool) (rows:List Tr) (o4 o5 o6 o7 o8 o9:Option R),Z=[zF (.lst (ts.map (ae m))),zF (.int rm),zF (.int x),some (f3,.lst (rows.map (rD m))),o4,o5,o6,o7,o8,o9]/\Rws ts rows/\rows.length=M) (by
   rintro M Z ⟨f3,rows,o4,o5,o6,o7,o8,o9,rfl,rw',hM⟩
   have hpk:∀Z':En,ao Z' 3=some (f3,D.lst (rows.map (rD m)))->aa call Z' (.bi .len [V3])=zF (.int (rows.length:Int)):=fun Z' h=>by
    refine cG (x:=.lst (rows.map (rD m))) ?_ (by rw [fM,aC])
    show (ao Z' 3).bind aL=_
    rw [h]
    cases f3<;>rfl
   have hlen:aa call [zF (.lst (ts.map (ae m))),zF (.int rm),zF (.int x),some (f3,.lst (rows.map (rD m))),o4,o5,o6,o7,o8,o9] (.cmp .gt (.bi .len [V3]) (kI 1))=zF (.bl (decide ((rows.length:Int) > 1))):=cP (dX (hpk _ rfl)) rfl rfl
   by_cases h1:rows.length<=1
   ·exact .inl ⟨false,by rw [hlen,Qj (by omega)]⟩
   ·refine .inr ⟨false,by rw [hlen,Qk (by omega)],?_⟩
    obtain⟨h,hh,hp⟩:=rw'.high
    have r60:rows.length<=60:=aM (Nat.le_mul_of_pos_right _ (Nat.two_pow_pos h)) hp
    obtain⟨q,hq,hq2,hq3,eq⟩:=cuts rows.length (x.fdiv 7) (by omega) x7
    have q2:=hq2 (by omega)
    obtain⟨fs,p5,p6,p8,p9,f1,f2,f4,f5,ff⟩:=qMI (call:=call) m ts rm x rows h q f3 hq (by omega) hl ok rw'.und (λp hp=>⟨rw'.good p hp,hh p hp⟩) told o5 o6 o8 o9
    refine⟨[zF (.lst (ts.map (ae m))),zF (.int rm),zF (.int x),zF (.lst (fs.map (rD m))),zF (.lst (aW rows.length q)),p5,p6,zF (.lst (fs.map (rD m))),p8,p9],?_,fs.length,by omega,false,fs,_,_,_,_,_,_,rfl,?_,rfl⟩
    ·refine au (true,.lst []) rfl ?_
     have q4:aa call [zF (.lst (ts.map (ae m))),zF (.int rm),zF (.int x),some (f3,.lst (rows.map (rD m))),o4,o5,o6,zT (.lst []),o8,o9] (.call 33 [(.bi .len [V3]),V1,(.bin .fdiv V2 (kI 7))])=zT (.lst (aW rows.length q)):=by
      rw [mP,jT,show ag [zF (.lst (ts.map (ae m))),zF (.int rm),zF (.int x),some (f3,.lst (rows.map (rD m))),o4,o5,o6,zT (.lst []),o8,o9] (.bi .len [V3]) (aa call [zF (.lst (ts.map (ae m))),zF (.int rm),zF (.int x),some (f3,.lst (rows.map (rD m))),o4,o5,o6,zT (.lst []),o8,o9] (.bi .len [V3]))=some (.int (rows.length:Int)) from by rw [hpk _ rfl];rfl]
      exact eq
     refine au _ q4 ?_
     refine tf (yO rfl) (yP rfl) rfl rfl (by rw [pC];exact ff) ?_
     rw [qOE]
     exact au (false,.lst (fs.map (rD m))) rfl rfl
    ·refine⟨by omega,λp hp=>(f2 p hp).1,f4,?_,h+1,λp hp=>(f2 p hp).2,?_⟩
     ·have:=rw'.few
      omega
     ·rw [f1,Nat.pow_succ]
      have:q * (2^h * 2)=(2 * q) * 2^h:=by rw [Nat.mul_comm (2^h) 2,<-Nat.mul_assoc,Nat.mul_comm q 2]
      rw [this]
      exact aM (Nat.mul_le_mul_right _ q2) hp)
 obtain⟨M',Z',h1,⟨f3,rows,o4,o5',o6',o7,o8,o9,rfl,rw',hM⟩,z,h2⟩:=loop jg ls.length [zF (.lst (ts.map (ae m))),zF (.int rm),zF (.int x),zT (.lst (ls.map (rD m))),zF (.lst (aW ts.length q)),o5,o6,none,none,none] (Nat.lt_of_le_of_lt (show ls.length<=100000 by omega) (bG (show 100000<2^100 by decide) (nS (by decide) (by decide)))) ⟨true,ls,_,_,_,_,_,_,rfl,r0,rfl⟩
 have hone:rows.length=1:=by
  have hlen:aa call [zF (.lst (ts.map (ae m))),zF (.int rm),zF (.int x),some (f3,.lst (rows.map (rD m))),o4,o5',o6',o7,o8,o9] (.cmp .gt (.bi .len [V3]) (kI 1))=zF (.bl (decide ((rows.length:Int) > 1))):=by
   refine cP (dX (r:=(false,.int (rows.length:Int))) (cG (x:=.lst (rows.map (rD m))) ?_ (by rw [fM,aC]))) rfl rfl
   show (ao [zF (.lst (ts.map (ae m))),zF (.int rm),zF (.int x),some (f3,.lst (rows.map (rD m))),o4,o5',o6',o7,o8,o9] 3).bind aL=_
   cases f3<;>rfl
  rw [hlen] at h2
  injection h2 with h2
  injection h2 with _ h2
  injection h2 with h2
  have:=of_decide_eq_false h2
  have:=rw'.ne
  omega
 cases rows with
 | nil=>cases hone
 | cons p rows =>
  cases rows with
  | cons _ _=>simp at hone
  | nil =>
   have hu:und p=ts:=by have:=rw'.und;rw [aA,aA,cL] at this;exact this
   obtain⟨h,hh,hp⟩:=rw'.high
   have hgp:=hh p bh
   have h6:h<6:=by
    have e:(1:Nat) * 2^h<=60:=hp
    refine Nat.lt_of_not_le λh6=>?_
    have:=nS (show 0<2 by decide) h6
    omega
   refine⟨p,⟨rw'.good p bh,by show ([]:List Int).length+hg p<=1000;rw [qG];omega,by show hg p<=8;omega,by show (und p).length<=100;rw [hu];omega⟩,hu,?_,?_⟩
   ·have:=rw'.few
    rw [bW,bW] at this
    omega
   ·refine au (true,.lst []) rfl ?_
    have q4:aa call [zF (.lst (ts.map (ae m))),zF (.int rm),zF (.int x),zT (.lst []),none,none,none,none,none,none] (.call 33 [(.bi .len [V0]),V1,V2])=zT (.lst (aW ts.length q)):=by
     rw [mP,jT,show ag [zF (.lst (ts.map (ae m))),zF (.int rm),zF (.int x),zT (.lst []),none,none,none,none,none,none] (.bi .len [V0]) (aa call [zF (.lst (ts.map (ae m))),zF (.int rm),zF (.int x),zT (.lst []),none,none,none,none,none,none] (.bi .len [V0]))=some (.int (ts.length:Int)) from by rw [show aa call [zF (.lst (ts.map (ae m))),zF (.int rm),zF (.int x),zT (.lst []),none,none,none,none,none,none] (.bi .len [V0])=zF (.int (ts.length:Int)) from cG rfl (by rw [fM,aC])];rfl]
     exact eq
    refine au _ q4 ?_
    refine tf (yO rfl) (yP rfl) rfl rfl (by rw [pC];exact lf) ?_
    refine xE h1 ?_
    have e0:=jL [rD m p] 0 (rD m p) rfl
    refine aE (ck (gQ (r:=(false,rD m p)) (ck (x:=.lst [rD m p]) (y:=.int 0) ?_ rfl e0)) rfl (vO m p)) rfl
    show (ao [zF (.lst (ts.map (ae m))),zF (.int rm),zF (.int x),some (f3,.lst ([p].map (rD m))),o4,o5',o6',o7,o8,o9] 3).bind aL=_
    cases f3<;>rfl
end
end Dw.T
namespace Dw.T
open Dw PySem
def Dt (call:Nat->List D->Option R) (m:Nat) (t:Int):Prop:=∀c:Fr,call 36 [cW m c,.int t]=zT (.lst (bx m λj=>side (qA c t j)))
def Gt (call:Nat->List D->Option R) (m:Nat):Prop:=∀f g:Nat->P2,(∀j,dP (f j))->(∀j,dP (g j))->call 37 [.lst (bx m λj=>side (f j)),.lst (bx m λj=>side (g j))]=zF (.int (aP m f g))
def Ce (call:Nat->List D->Option R) (ns:List Int):Prop:=∀k:Nat,call 28 [.lst (ns.map .int),.int (k:Int)]=zF (.int (fk ns k))
section
variable {call:Nat->List D->Option R}
theorem qRF (m:Nat) (c:Fr) (t:Int) (ht:t.natAbs<2^64):ak call [zF (cW m c),zF (.int t)] f_law_frame_at.body=some (.rt (true,.lst (bx m λj=>side (qA c t j)))):=by
 have l2:2<=lim:=cJ (by decide)
 refine aE (r:=(true,.lst (bx m λj=>side (qA c t j)))) (gT (r:=(false,cW m c)) (its:=bx m λj=>q4 (c j)) (Z':=[none,zF (.int t)]) rfl rfl rfl (tH (λj=>q4 (c j)) (λj=>side (qA c t j)) λj hj=>⟨false,?_⟩)) rfl
 have m1:=kK (c j).2.2.1 t ht
 have m2:=kK (c j).2.2.2 t ht
 simp only [jS,gX,iM,aN,eS,pk,ao,ba,aX,aY,aL,bp,aR,aZ,uK,uJ,uI,AJ,lE,m1,m2,↓reduceIte,ir,iC,iB,Nat.reduceAdd,l2]
 rfl
theorem qOV (m:Nat) (f g:Nat->P2) (hf:∀j,dP (f j)) (hg:∀j,dP (g j)):ak call [zF (.lst (bx m λj=>side (f j))),zF (.lst (bx m λj=>side (g j))),none,none,none,none] f_law_gap.body=some (.rt (false,.int (aP m f g))):=by
 obtain⟨Z',h,o3,o4,o5,rfl⟩:=jX (call:=call) (tg:=.two 3 4) (body:=zS)
  (λk Z=>∃(o3 o4 o5:Option R),Z=[zF (.lst (bx m λj=>side (f j))),zF (.lst (bx m λj=>side (g j))),zF (.int (aP k f g)),o3,o4,o5]) m (λj=>.tup [side (f j),side (g j)])
  [zF (.lst (bx m λj=>side (f j))),zF (.lst (bx m λj=>side (g j))),zF (.int 0),none,none,none] ⟨none,none,none,rfl⟩ (by
   rintro k Z hk ⟨o3,o4,o5,rfl⟩
   have hb:=wz (hf k) (hg k)
   have m1:=ro (gp (f k) (g k)) (gp (f k) (g k)) (by omega) (by omega)
   have e:aP (k+1) f g=aP k f g+gp (f k) (g k) * gp (f k) (g k):=by unfold aP;rw [List.range_succ,List.map_append,List.sum_append];simp
   refine⟨[zF (.lst (bx m λj=>side (f j))),zF (.lst (bx m λj=>side (g j))),zF (.int (aP k f g)),zF (side (f k)),zF (side (g k)),o5],_,rfl,?_,zF (side (f k)),zF (side (g k)),zF (.int (gp (f k) (g k))),rfl⟩
   rw [e]
   refine au (false,.int (gp (f k) (g k))) (by simp only [fJ,eI,pk,bp,aR,aN,eS,ao,ba,aX,aY,aL,xm,aZ,xn,lF,gh,yU];rfl) ?_
   exact au (false,.int (aP k f g+gp (f k) (g k) * gp (f k) (g k))) (by simp only [dW,fU,fV,fW,aN,pk,ao,ba,aX,aY,aL,aZ,aR,lE,m1,↓reduceIte,ir]) rfl)
 refine au (false,.int 0) rfl ?_
 refine tf (x:=(false,.lst (bx m λj=>side (f j)))) (y:=(false,.lst (bx m λj=>side (g j)))) rfl rfl rfl rfl (by rw [pC];exact h) ?_
 exact aE rfl rfl
theorem qO3 (c:Int):∃t:Int,(0<=t/\t<=10^15)/\ak call [zF (.int c)] f_law_beat.body=some (.rt (false,.int t)):=by
 have d3:aT 3=true:=by decide
 have d20:aT 20=true:=by decide
 have p15:gR 10 15=true:=by decide
 have dd:aT (10^(15:Int).toNat+1)=true:=by decide
 have x0:=dH c 3 (by decide)
 have b1:=dH (c.fdiv 3) 20 (by decide)
 have b2:=dH (c.fdiv 3) (10^(15:Int).toNat+1) (by decide)
 have e0:aa call [zF (.int c)] (.cmp .eq (.bin .mod V0 (kI 3)) (kI 0))=zF (.bl (c.fmod 3 == 0)):=by simp only [ip,aN,pk,ao,ba,aX,aY,aL,bp,aR,aZ,bU,d3,↓reduceIte,jZ];rfl
 have e1:aa call [zF (.int c)] (.cmp .eq (.bin .mod V0 (kI 3)) (kI 1))=zF (.bl (c.fmod 3 == 1)):=by simp only [ip,aN,pk,ao,ba,aX,aY,aL,bp,aR,aZ,bU,d3,↓reduceIte,jZ];rfl
 rcases lD x0 with e|e|e<;>rw [e] at e0 e1
 ·exact⟨0,by decide,eQ e0 (aE rfl rfl) rfl⟩
 ·exact⟨(c.fdiv 3).fmod 20,by omega,bJ e0 (eQ e1 (aE (by simp only [eM,aN,pk,ao,ba,aX,aY,aL,bp,aR,aZ,dw,bU,d3,d20,↓reduceIte]) rfl) rfl)⟩
 ·exact⟨(c.fdiv 3).fmod (10^(15:Int).toNat+1),⟨b2.1,Int.le_of_lt_add_one b2.2⟩,bJ e0 (bJ e1 (aE (by simp only [eM,aN,pk,ao,ba,aX,aY,aL,bp,aR,aZ,dw,bU,jd,p15,ir,d3,dd,↓reduceIte]) rfl))⟩
theorem qOW (m:Nat) (t:Int) (ht:0<=t/\t<=10^15) (ns:List Int) (A B:List Th) (hA:∀u∈A,ThW u) (hB:∀u∈B,ThW u) (lA:A.length<=100) (lB:B.length<=100) (ce:Ce call ns) (dt:Dt call m t) (gt:Gt call m) :
  ∃far:Int,ak call [zF (.lst (ns.map .int)),zF (.lst (A.map (ae m))),zF (.lst (B.map (ae m))),zF (.int t),none,none,none,none] f_law_far.body=some (.rt (false,.int far)):=by
 have c5:=ce 5
 generalize fk ns 5=c at c5
 have d4:aT 4=true:=by decide
 have d8:aT 8=true:=by decide
 have d31:aT 31=true:=by decide
 have d2:aT 2=true:=by decide
 have d300:aT 300=true:=by decide
 have p62:gR 10 62=true:=by decide
 have d62:aT (10^(62:Int).toNat+1)=true:=by decide
 have s0:∀z,ak call [zF (.lst (ns.map .int)),zF (.lst (A.map (ae m))),zF (.lst (B.map (ae m))),zF (.int t),zF (.int c),none,none,none] (f_law_far.body.drop 1)=z->ak call [zF (.lst (ns.map .int)),zF (.lst (A.map (ae m))),zF (.lst (B.map (ae m))),zF (.int t),none,none,none,none] f_law_far.body=z:=λz hz=>au (false,.int c) c5 hz
 have e0:aa call [zF (.lst (ns.map .int)),zF (.lst (A.map (ae m))),zF (.lst (B.map (ae m))),zF (.int t),zF (.int c),none,none,none] (.cmp .eq (.bin .mod V4 (kI 4)) (kI 0))=zF (.bl (c.fmod 4 == 0)):=by simp only [ip,aN,pk,ao,ba,aX,aY,aL,bp,aR,aZ,bU,d4,↓reduceIte,jZ];rfl
 have e1:aa call [zF (.lst (ns.map .int)),zF (.lst (A.map (ae m))),zF (.lst (B.map (ae m))),zF (.int t),zF (.int c),none,none,none] (.cmp .eq (.bin .mod V4 (kI 4)) (kI 1))=zF (.bl (c.fmod 4 == 1)):=by simp only [ip,aN,pk,ao,ba,aX,aY,aL,bp,aR,aZ,bU,d4,↓reduceIte,jZ];rfl
 have la:aa call [zF (.lst (ns.map .int)),zF (.lst (A.map (ae m))),zF (.lst (B.map (ae m))),zF (.int t),zF (.int c),none,none,none] (.cmp .eq (.bi .len [V1]) (kI 0))=zF (.bl ((A.length:Int) == 0)):=cP (dX (r:=(false,.int (A.length:Int))) (cG rfl (by rw [fM,aC]))) rfl rfl
 have lb:aa call [zF (.lst (ns.map .int)),zF (.lst (A.map (ae m))),zF (.lst (B.map (ae m))),zF (.int t),zF (.int c),none,none,none] (.cmp .eq (.bi .len [V2]) (kI 0))=zF (.bl ((B.length:Int) == 0)):=cP (dX (r:=(false,.int (B.length:Int))) (cG rfl (by rw [fM,aC]))) rfl rfl
 have or3:aa call [zF (.lst (ns.map .int)),zF (.lst (A.map (ae m))),zF (.lst (B.map (ae m))),zF (.int t),zF (.int c),none,none,none] (.or (.cmp .eq (.bin .mod V4 (kI 4)) (kI 1)) (.or (.cmp .eq (.bi .len [V1]) (kI 0)) (.cmp .eq (.bi .len [V2]) (kI 0))))=zF (.bl ((c.fmod 4 == 1)||((A.length:Int) == 0||(B.length:Int) == 0))):=by
  rw [wO,e1]
  cases c.fmod 4 == 1 with
  | true=>rfl
  | false =>
   show aa call _ (.or (.cmp .eq (.bi .len [V1]) (kI 0)) (.cmp .eq (.bi .len [V2]) (kI 0)))=_
   rw [wO,la]
   cases (A.length:Int) == 0 with
   | true=>rfl
   | false=>exact lb
 cases h0:(c.fmod 4 == 0) with
 | true =>
  rw [h0] at e0
  exact⟨_,s0 _ (eQ e0 (aE (r:=(false,.int ((c.fdiv 4).fmod 300))) (by simp only [eM,aN,pk,ao,ba,aX,aY,aL,bp,aR,aZ,dw,bU,d4,d300,↓reduceIte]) rfl) rfl)⟩
 | false =>
  rw [h0] at e0
  cases h1:((c.fmod 4 == 1)||((A.length:Int) == 0||(B.length:Int) == 0)) with
  | true =>
   rw [h1] at or3
   exact⟨_,s0 _ (bJ e0 (eQ or3 (aE (r:=(false,.int ((c.fdiv 4).fmod (10^(62:Int).toNat+1)))) (by simp only [eM,aN,pk,ao,ba,aX,aY,aL,bp,aR,aZ,dw,bU,jd,p62,ir,d4,d62,↓reduceIte]) rfl) rfl))⟩
  | false =>
   rw [h1] at or3
   rw [Bool.or_eq_false_iff,Bool.or_eq_false_iff] at h1
   have nA:A.length≠0:=λh=>by have:=h1.2.1;rw [h] at this;cases this
   have nB:B.length≠0:=λh=>by have:=h1.2.2;rw [h] at this;cases this
   have dA:aT (A.length:Int)=true:=jx _ (by omega) (by omega)
   have dB:aT (B.length:Int)=true:=jx _ (by omega) (by omega)
   have bA:=dH (c.fdiv 8) (A.length:Int) (by omega)
   have bB:=dH (c.fdiv 31) (B.length:Int) (by omega)
   obtain⟨i,ei⟩:∃i:Nat,(c.fdiv 8).fmod (A.length:Int)=(i:Int):=⟨((c.fdiv 8).fmod (A.length:Int)).toNat,by omega⟩
   obtain⟨j,ej⟩:∃j:Nat,(c.fdiv 31).fmod (B.length:Int)=(j:Int):=⟨((c.fdiv 31).fmod (B.length:Int)).toNat,by omega⟩
   have hi:i<A.length:=by omega
   have hj:j<B.length:=by omega
   have gi:=jL (A.map (ae m)) i (ae m A[i]) (by rw [cu,cz hi];rfl)
   have gj:=jL (B.map (ae m)) j (ae m B[j]) (by rw [cu,cz hj];rfl)
   have oki:=hA A[i] (iF hi)
   have okj:=hB B[j] (iF hj)
   generalize A[i]=a at gi oki
   generalize B[j]=b at gj okj
   have lenA:cK .len [.lst (A.map (ae m))]=zF (.int (A.length:Int)):=by rw [fM,aC]
   have lenB:cK .len [.lst (B.map (ae m))]=zF (.int (B.length:Int)):=by rw [fM,aC]
   have f1:=dt a.sw
   have f2:=dt b.sw
   have f3:=gt (qA a.sw t) (qA b.sw t) (ic oki.ok ht) (ic okj.ok ht)
   refine⟨max 0 (aP m (qA a.sw t) (qA b.sw t) - (c.fdiv 4).fmod 2),s0 _ (bJ e0 (bJ or3 ?_))⟩
   refine au (false,ae m a) (by simp only [eS,aN,fJ,eI,gh,pk,ao,ba,aX,aY,aL,bp,aR,aZ,dw,d8,↓reduceIte,lenA,bU,dA,ei,gi]) ?_
   refine au (false,ae m b) (by simp only [dW,fU,fV,fW,eS,aN,fJ,eI,gh,pk,ao,ba,aX,aY,aL,bp,aR,aZ,dw,d31,↓reduceIte,lenB,bU,dB,ej,gj]) ?_
   have q1:aa call [zF (.lst (ns.map .int)),zF (.lst (A.map (ae m))),zF (.lst (B.map (ae m))),zF (.int t),zF (.int c),zF (ae m a),zF (ae m b),none] (.call 36 [(.ix V5 (kI 1)),V3])=zT (.lst (bx m λj=>side (qA a.sw t j))):=f1
   have q2:aa call [zF (.lst (ns.map .int)),zF (.lst (A.map (ae m))),zF (.lst (B.map (ae m))),zF (.int t),zF (.int c),zF (ae m a),zF (ae m b),none] (.call 36 [(.ix V6 (kI 1)),V3])=zT (.lst (bx m λj=>side (qA b.sw t j))):=f2
   refine au (false,.int (aP m (qA a.sw t) (qA b.sw t))) (gS (fP q1) (fP q2) f3) ?_
   exact aE (by simp only [eM,dW,fU,fV,fW,fJ,eI,gh,aN,pk,ao,ba,aX,aY,aL,bp,aR,aZ,dw,d4,d2,↓reduceIte,bU,lF,tu]) rfl
theorem qOX (m:Nat) (t far:Int) (ht:0<=t/\t<=10^15) (A B:List Th) (hA:∀u∈A,ThW u) (hB:∀u∈B,ThW u) (lA:A.length<=100) (lB:B.length<=100) (dt:Dt call m t) (gt:Gt call m) :
  ak call [zF (.lst (A.map (ae m))),zF (.lst (B.map (ae m))),zF (.int far),zF (.int t),none,none,none,none,none] f_law_due.body=some (.rt (false,.tup (sP (due m t far A B)))):=by
 have hc:aa call [zF (.lst (A.map (ae m))),zF (.lst (B.map (ae m))),zF (.int far),zF (.int t),none,none,none,none,none] (.compS (.call 36 [(.ix V0 (kI 1)),V1]) 1 [3] (.one 0) V1)=zT (.lst (B.map λb=>.lst (bx m λj=>side (qA b.sw t j)))):=
  gT (r:=(false,.lst (B.map (ae m)))) rfl rfl rfl (fO call _ (ae m) (λb=>.lst (bx m λj=>side (qA b.sw t j))) B λb _=>⟨[zF (ae m b),zF (.int t)],true,rfl,dt b.sw⟩)
 refine au _ hc ?_
 refine au (true,.lst []) rfl ?_
 obtain⟨Z',h,o6,o7,o8,rfl⟩:=iq (call:=call) (tg:=.one 6) (body:=zR)
  (λk Z=>∃(o6 o7 o8:Option R),Z=[zF (.lst (A.map (ae m))),zF (.lst (B.map (ae m))),zF (.int far),zF (.int t),zF (.lst (B.map λb=>.lst (bx m λj=>side (qA b.sw t j)))),zT (.lst ((due m t far (A.take k) B).map bq)),o6,o7,o8]) (A.map (ae m)) 0
  [zF (.lst (A.map (ae m))),zF (.lst (B.map (ae m))),zF (.int far),zF (.int t),zF (.lst (B.map λb=>.lst (bx m λj=>side (qA b.sw t j)))),zT (.lst []),none,none,none] ⟨none,none,none,rfl⟩ (by
   rintro k d Z hk ⟨o6,o7,o8,rfl⟩
   rw [cu] at hk
   obtain⟨a,ha,rfl⟩:=yad.mp hk
   have oka:=hA a (cj ha)
   have h1:due m t far (A.take (0+k+1)) B=due m t far (A.take (0+k)) B++bH m t far a B:=by rw [cZ,take_one ha,y9];congr 1;show bH m t far a B++[]=_;rw [cL]
   have h2:=pM m t far (A.take (0+k)) B
   have h3:(A.take (0+k)).length * B.length<=100 * 100:=Nat.mul_le_mul (by rw [eL];omega) lB
   generalize due m t far (A.take (0+k)) B=K at *
   obtain⟨Z2,hh,o8',rfl⟩:=jX (call:=call) (tg:=.one 8) (body:=zQ)
    (λi Z=>∃(o8:Option R),Z=[zF (.lst (A.map (ae m))),zF (.lst (B.map (ae m))),zF (.int far),zF (.int t),zF (.lst (B.map λb=>.lst (bx m λj=>side (qA b.sw t j)))),zT (.lst ((K++bH m t far a (B.take i)).map bq)),zF (ae m a),zF (.lst (bx m λj=>side (qA a.sw t j))),o8]) B.length (λi=>.int (i:Nat))
    [zF (.lst (A.map (ae m))),zF (.lst (B.map (ae m))),zF (.int far),zF (.int t),zF (.lst (B.map λb=>.lst (bx m λj=>side (qA b.sw t j)))),zT (.lst (K.map bq)),zF (ae m a),zF (.lst (bx m λj=>side (qA a.sw t j))),o8] ⟨o8,by rw [jn];show _=[_,_,_,_,_,zT (.lst ((K++[]).map bq)),_,_,_];rw [cL]⟩ (by
     rintro i Z hi ⟨o8,rfl⟩
     have gb:B[i]?=some B[i]:=cz hi
     have okb:=hB B[i] (iF hi)
     generalize B[i]=b at gb okb
     have e1:bH m t far a (B.take (i+1))=bH m t far a (B.take i)++bH m t far a [b]:=by rw [take_one gb,y8]
     have h4:(bH m t far a (B.take i)).length<=100:=by unfold bH;rw [aC];refine aM (List.length_filter_le _ _) ?_;rw [eL];omega
     have x1:=jL (B.map (ae m)) i (ae m b) (by rw [cu,gb];rfl)
     have x2:=jL (B.map λb=>.lst (bx m λj=>side (qA b.sw t j))) i (.lst (bx m λj=>side (qA b.sw t j))) (by rw [cu,gb];rfl)
     have t0:=u7 m a
     have t1:=u7 m b
     have f3:=gt (qA a.sw t) (qA b.sw t) (ic oka.ok ht) (ic okb.ok ht)
     generalize hK2:bH m t far a (B.take i)=K2 at *
     have q1:aa call [zF (.lst (A.map (ae m))),zF (.lst (B.map (ae m))),zF (.int far),zF (.int t),zF (.lst (B.map λb=>.lst (bx m λj=>side (qA b.sw t j)))),zT (.lst ((K++K2).map bq)),zF (ae m a),zF (.lst (bx m λj=>side (qA a.sw t j))),zF (.int (i:Int))] (.cmp .ne (.ix V6 (kI 0)) (.ix (.ix V1 V8) (kI 0)))=zF (.bl (decide (b.hd≠a.hd))):=by
      have:decide (b.hd≠a.hd)=decide (a.hd≠b.hd):=by by_cases h:a.hd=b.hd<;>simp [h,eq_comm]
      rw [this]
      exact cP (gQ (r:=(false,.int a.hd)) (ck rfl rfl t0)) (gQ (r:=(false,.int b.hd)) (ck (gQ (r:=(false,ae m b)) (ck rfl rfl x1)) rfl t1)) (qo _ _)
     have q3:aa call [zF (.lst (A.map (ae m))),zF (.lst (B.map (ae m))),zF (.int far),zF (.int t),zF (.lst (B.map λb=>.lst (bx m λj=>side (qA b.sw t j)))),zT (.lst ((K++K2).map bq)),zF (ae m a),zF (.lst (bx m λj=>side (qA a.sw t j))),zF (.int (i:Int))] (.ix V4 V8)=zF (.lst (bx m λj=>side (qA b.sw t j))):=ck rfl rfl x2
     have q4:aa call [zF (.lst (A.map (ae m))),zF (.lst (B.map (ae m))),zF (.int far),zF (.int t),zF (.lst (B.map λb=>.lst (bx m λj=>side (qA b.sw t j)))),zT (.lst ((K++K2).map bq)),zF (ae m a),zF (.lst (bx m λj=>side (qA a.sw t j))),zF (.int (i:Int))] (.call 37 [V7,(.ix V4 V8)])=zF (.int (aP m (qA a.sw t) (qA b.sw t))):=gS rfl (by rw [q3];rfl) f3
     have q2:aa call [zF (.lst (A.map (ae m))),zF (.lst (B.map (ae m))),zF (.int far),zF (.int t),zF (.lst (B.map λb=>.lst (bx m λj=>side (qA b.sw t j)))),zT (.lst ((K++K2).map bq)),zF (ae m a),zF (.lst (bx m λj=>side (qA a.sw t j))),zF (.int (i:Int))] (.cmp .le (.call 37 [V7,(.ix V4 V8)]) V2)=zF (.bl (near m t far a b)):=cP (ft q4) rfl (AR _ _)
     have q5:=oO (x:=false) (y:=false) q1 q2
     cases hp:(decide (b.hd≠a.hd)&&near m t far a b) with
     | true =>
      have e2:bH m t far a [b]=[(a.hd,b.hd)]:=by unfold bH;rw [List.filter_cons,Ql hp];rfl
      rw [hp] at q5
      refine⟨_,_,rfl,?_,zF (.int (i:Int)),rfl⟩
      rw [e1,e2,<-bw,List.map_append (l₁:=K++K2)]
      refine iK q5 (jR (xs:=(K++K2).map bq) (false,bq (a.hd,b.hd)) ?_ rfl (jN (by rw [aC,bf];omega)) rfl) rfl
      have l2:2<=lim:=cJ (by decide)
      simp only [jS,gX,iM,eS,pk,ao,ba,aX,aY,aL,bp,aR,aZ,fU,fV,fW,t0,x1,t1,iC,iB,Nat.reduceAdd,l2,↓reduceIte]
      rfl
     | false =>
      have e2:bH m t far a [b]=[]:=by unfold bH;rw [List.filter_cons,hp];rfl
      rw [hp] at q5
      refine⟨_,_,rfl,?_,zF (.int (i:Int)),rfl⟩
      rw [e1,e2,cL]
      exact bJ q5 rfl)
   rw [dF (ar _)] at hh
   refine⟨[zF (.lst (A.map (ae m))),zF (.lst (B.map (ae m))),zF (.int far),zF (.int t),zF (.lst (B.map λb=>.lst (bx m λj=>side (qA b.sw t j)))),zT (.lst (K.map bq)),zF (ae m a),o7,o8],_,rfl,?_,zF (ae m a),zF (.lst (bx m λj=>side (qA a.sw t j))),o8',rfl⟩
   rw [h1]
   have f1:=dt a.sw
   have q1:aa call [zF (.lst (A.map (ae m))),zF (.lst (B.map (ae m))),zF (.int far),zF (.int t),zF (.lst (B.map λb=>.lst (bx m λj=>side (qA b.sw t j)))),zT (.lst (K.map bq)),zF (ae m a),o7,o8] (.call 36 [(.ix V6 (kI 1)),V3])=zT (.lst (bx m λj=>side (qA a.sw t j))):=f1
   refine au _ q1 ?_
   refine pQ (ds:=[.int (B.length:Int)]) ?_ (jO (by omega)) hh rfl
   rw [eI,dX (r:=(false,.int (B.length:Int))) (cG rfl (by rw [fM,aC]))]
   rfl)
 rw [aC,cZ,dF (ar _)] at h
 refine jf (r:=(false,.lst (A.map (ae m)))) rfl rfl h ?_
 exact aE (cG (dX (cG rfl (Af _))) rfl) rfl
end
end Dw.T
namespace Dw.T
open Dw PySem
section
variable {call:Nat->List D->Option R}
theorem gP {Z:En}{o:BOp}{a b:C}{x y:D}{r:Option R}(ha:pk Z a (aa call Z a)=some x) (hb:pk Z b (aa call Z b)=some y) (h:f7 o x y=r):aa call Z (.bin o a b)=r:=by
 rw [aN,ha,hb]
 exact h
theorem qJR (a:Int):ak call [zF (.int a),zF (.int a),none] f_law_alike.body=some (.rt (false,.bl true)):=by
 refine bJ (x:=false) rfl (bJ (x:=false) rfl (bJ (x:=false) rfl (aE ?_ rfl)))
 refine sh (x:=false) rfl (sh (x:=false) rfl ?_)
 refine cP rfl rfl ?_
 show zF (D.bl (a == a))=_
 rw [beq_self_eq_true]
theorem zB (xs:List D) (hl:xs.length<=10000) (h:∀d∈xs,call 29 [d,d]=zF (.bl true)):ak call [zF (.tup xs),zF (.tup xs),none] f_law_alike.body=some (.rt (false,.bl true)):=by
 refine eQ (x:=false) rfl ?_ rfl
 have e0:aa call [zF (.tup xs),zF (.tup xs),none] (.or (.not (.isi V0 .tuple)) (.cmp .ne (.bi .len [V0]) (.bi .len [V1])))=zF (.bl false):=by
  show aa call [zF (.tup xs),zF (.tup xs),none] (.cmp .ne (.bi .len [V0]) (.bi .len [V1]))=_
  have q:∀i,ao [zF (.tup xs),zF (.tup xs),none] i=zF (.tup xs)->aa call [zF (.tup xs),zF (.tup xs),none] (.bi .len [.v i])=zF (.int (xs.length:Int)):=λi hi=>cG (x:=.tup xs) (by show (ao _ i).bind aL=_;rw [hi];rfl) rfl
  refine cP (dX (q 0 rfl)) (dX (q 1 rfl)) ?_
  rw [qo]
  simp
 refine bJ e0 ?_
 obtain⟨Z',hh,o2,rfl⟩:=jX (call:=call) (tg:=.one 2) (body:=Az) (λk Z=>∃o2:Option R,Z=[zF (.tup xs),zF (.tup xs),o2]) xs.length (λi=>.int (i:Nat)) [zF (.tup xs),zF (.tup xs),none] ⟨none,rfl⟩ (by
  rintro k Z hk ⟨o2,rfl⟩
  have e:=rR xs k xs[k] (cz hk)
  have c:=h xs[k] (iF hk)
  generalize xs[k]=d at e c
  refine⟨[zF (.tup xs),zF (.tup xs),zF (.int (k:Int))],_,rfl,?_,zF (.int (k:Int)),rfl⟩
  have q0:aa call [zF (.tup xs),zF (.tup xs),zF (.int (k:Int))] (.ix V0 V2)=zF d:=ck rfl rfl e
  have q1:aa call [zF (.tup xs),zF (.tup xs),zF (.int (k:Int))] (.ix V1 V2)=zF d:=ck rfl rfl e
  have q2:aa call [zF (.tup xs),zF (.tup xs),zF (.int (k:Int))] (.call 29 [(.ix V0 V2),(.ix V1 V2)])=zF (.bl true):=gS (by rw [q0];rfl) (by rw [q1];rfl) c
  refine bJ (x:=false) ?_ rfl
  rw [qOI,q2]
  rfl)
 refine pQ (ds:=[.int (xs.length:Int)]) rfl (jO hl) hh ?_
 exact aE rfl rfl
def wC (m:Nat) (A B:List Th):D:=.lst [.lst (A.map (ae m)),.lst (B.map (ae m))]
def mi (A B:List Th):Prop:=A.length<=60/\B.length<=60/\(∀u∈A,ThW u)/\∀u∈B,ThW u
theorem zO (m cut:Nat) (rs:En) (e:C) (hc:cut<=60) (h:∀k:Nat,k<cut->∃u:Th,ThW u/\aa call (zF (.int (k:Int))::rs) e=zF (ae m u)) :
  ∃A:List Th,A.length=cut/\(∀u∈A,ThW u)/\cB call e (none::rs) (.one 0) ((List.range cut).map λi=>.int (i:Nat))=some (A.map (ae m)):=by
 obtain⟨f,hf⟩:=Classical.axiomOfChoice (r:=λ(k:Nat) (u:Th)=>k<cut->(ThW u/\aa call (zF (.int (k:Int))::rs) e=zF (ae m u))) λk=>by
  by_cases hk:k<cut
  ·obtain⟨u,hu⟩:=h k hk
   exact⟨u,λ_=>hu⟩
  ·exact⟨⟨0,λ_=>(0,0,0,0),0,0⟩,λz=>Qn z hk⟩
 refine⟨(List.range cut).map f,by rw [aC,List.length_range],λu hu=>?_,?_⟩
 ·obtain⟨k,hk,rfl⟩:=yaN.mp hu
  exact (hf k (List.mem_range.mp hk)).1
 ·rw [List.map_map]
  exact y6 (r:=rs) (λk=>ae m (f k)) λj hj=>⟨false,(hf j hj).2⟩
theorem qOU (ns:List Int) (hn:ns.length<=63) (m:Nat) (hm:m<=3) (w:Int) (hw:0<=w) (ce:Ce call ns)
  (C31:∀(c:Int) (k:Nat) (b:Int),k<=100->(0<=b/\b<=10^14)->∃u:Th,ThW u/\call 31 [.int c,.int (k:Int),.int (m:Int),.int w,.int b]=zF (ae m u)) :
  ∃A B:List Th,mi A B/\ak call [zF (.lst (ns.map .int)),zF (.int (m:Int)),zF (.int w),none,none,none,none,none,none] f_law_two_rows.body=some (.rt (true,wC m A B)):=by
 have c2:=ce 2
 have c4:=ce 4
 generalize fk ns 2=x2 at c2
 generalize fk ns 4=x4 at c4
 have d12:aT 12=true:=by decide
 have d4:aT 4=true:=by decide
 have d3:aT 3=true:=by decide
 have d2:aT 2=true:=by decide
 have d1000:aT 1000=true:=by decide
 have p14:gR 10 14=true:=by decide
 have d14:aT (10^(14:Int).toNat)=true:=by decide
 have l2:2<=lim:=cJ (by decide)
 have bb:=dH (x2.fdiv 12) (10^(14:Int).toNat) (by decide)
 obtain⟨b,hb,eb⟩:∃b:Int,(0<=b/\b<=10^14)/\(x2.fdiv 12).fmod (10^(14:Int).toNat)=b:=⟨_,⟨bb.1,Int.le_of_lt bb.2⟩,rfl⟩
 have b2:=dH (b+1+x4.fmod 1000) (10^(14:Int).toNat) (by decide)
 have hcut:=qKY ns 6 66 (by decide)
 generalize hcs:(ns.drop 6).take (66 - 6)=cs at hcut
 have lcs:cs.length<=57:=by rw [<-hcs,eL,hJ];omega
 obtain⟨b',hb',eb'⟩:∃b':Int,(0<=b'/\b'<=10^14)/\∀z,ak call [zF (.lst (ns.map .int)),zF (.int (m:Int)),zF (.int w),zF (.lst (cs.map .int)),zF (.int b),zF (.lst [.int b,.int b']),none,none,none] (f_law_two_rows.body.drop 4)=z->ak call [zF (.lst (ns.map .int)),zF (.int (m:Int)),zF (.int w),none,none,none,none,none,none] f_law_two_rows.body=z:=by
  have st:∀z,ak call [zF (.lst (ns.map .int)),zF (.int (m:Int)),zF (.int w),zF (.lst (cs.map .int)),zF (.int b),zF (.lst [.int b,.int b]),none,none,none] (f_law_two_rows.body.drop 3)=z->ak call [zF (.lst (ns.map .int)),zF (.int (m:Int)),zF (.int w),none,none,none,none,none,none] f_law_two_rows.body=z:=λz hz=>by
   refine au (true,.lst (cs.map .int)) (by rw [<-hcut];rfl) ?_
   have q:aa call [zF (.lst (ns.map .int)),zF (.int (m:Int)),zF (.int w),zF (.lst (cs.map .int)),none,none,none,none,none] (.call 28 [V0,(kI 2)])=zF (.int x2):=c2
   refine au (false,.int b) (gP (eO (r:=(false,.int (x2.fdiv 12))) (gP (ft q) rfl (by rw [dw,Ql d12]))) (eO (r:=(false,.int (10^(14:Int).toNat))) (gP rfl rfl (by rw [jd,Ql p14]))) (by rw [bU,Ql d14,eb])) (au (true,.lst [.int b,.int b]) rfl hz)
  have q:aa call [zF (.lst (ns.map .int)),zF (.int (m:Int)),zF (.int w),zF (.lst (cs.map .int)),zF (.int b),zF (.lst [.int b,.int b]),none,none,none] (.call 28 [V0,(kI 2)])=zF (.int x2):=c2
  have q':aa call [zF (.lst (ns.map .int)),zF (.int (m:Int)),zF (.int w),zF (.lst (cs.map .int)),zF (.int b),zF (.lst [.int b,.int b]),none,none,none] (.call 28 [V0,(kI 4)])=zF (.int x4):=c4
  have e0:aa call [zF (.lst (ns.map .int)),zF (.int (m:Int)),zF (.int w),zF (.lst (cs.map .int)),zF (.int b),zF (.lst [.int b,.int b]),none,none,none] (.cmp .eq (.bin .mod (.bin .fdiv (.call 28 [V0,(kI 2)]) (kI 4)) (kI 3)) (kI 1))=zF (.bl ((x2.fdiv 4).fmod 3 == 1)):=by
   rw [ip,aN,aN,ft q]
   simp only [pk,bp,aR,dw,d4,↓reduceIte,bU,d3,jZ]
   rfl
  cases h1:((x2.fdiv 4).fmod 3 == 1) with
  | true =>
   rw [h1] at e0
   refine⟨(b+1+x4.fmod 1000).fmod (10^(14:Int).toNat),⟨b2.1,Int.le_of_lt b2.2⟩,λz hz=>st z (iK e0 (au (true,.lst [.int b,.int ((b+1+x4.fmod 1000).fmod (10^(14:Int).toNat))]) ?_ rfl) hz)⟩
   have q3:aa call [zF (.lst (ns.map .int)),zF (.int (m:Int)),zF (.int w),zF (.lst (cs.map .int)),zF (.int b),zF (.lst [.int b,.int b]),none,none,none] (.bin .mod (.call 28 [V0,(kI 4)]) (kI 1000))=zF (.int (x4.fmod 1000)):=by
    rw [aN,ft q']
    simp only [pk,bp,aR,bU,d1000,↓reduceIte]
   have q4:aa call [zF (.lst (ns.map .int)),zF (.int (m:Int)),zF (.int w),zF (.lst (cs.map .int)),zF (.int b),zF (.lst [.int b,.int b]),none,none,none] (.bin .add (.bin .add V4 (kI 1)) (.bin .mod (.call 28 [V0,(kI 4)]) (kI 1000)))=zF (.int (b+1+x4.fmod 1000)):=by
    rw [aN,eO (r:=(false,.int (b+1))) rfl,eO q3]
    rfl
   have q5:aa call [zF (.lst (ns.map .int)),zF (.int (m:Int)),zF (.int w),zF (.lst (cs.map .int)),zF (.int b),zF (.lst [.int b,.int b]),none,none,none] (.bin .mod (.bin .add (.bin .add V4 (kI 1)) (.bin .mod (.call 28 [V0,(kI 4)]) (kI 1000))) (.bin .pow (kI 10) (kI 14)))=zF (.int ((b+1+x4.fmod 1000).fmod (10^(14:Int).toNat))):=by
    rw [aN,eO q4]
    simp only [pk,aN,bp,aR,jd,p14,↓reduceIte,bU,d14]
   rw [sF,gX,gX,q5]
   rfl
  | false =>
   rw [h1] at e0
   exact⟨b,hb,λz hz=>st z (bJ e0 hz)⟩
 obtain⟨cut,hcl,ec⟩:∃cut:Nat,cut<=cs.length/\∀z,ak call [zF (.lst (ns.map .int)),zF (.int (m:Int)),zF (.int w),zF (.lst (cs.map .int)),zF (.int b),zF (.lst [.int b,.int b']),zF (.int (cut:Int)),none,none] (f_law_two_rows.body.drop 6)=z->ak call [zF (.lst (ns.map .int)),zF (.int (m:Int)),zF (.int w),none,none,none,none,none,none] f_law_two_rows.body=z:=by
  have hlen:∀Z:En,ao Z 3=zF (.lst (cs.map .int))->aa call Z (.bi .len [V3])=zF (.int (cs.length:Int)):=fun Z h=>cG (x:=.lst (cs.map .int)) (by show (ao Z 3).bind aL=_;rw [h];rfl) (by rw [fM,aC])
  have h2:((cs.length:Int)).fdiv 2=((cs.length / 2:Nat):Int):=by rw [jj _ (by decide)];omega
  have st:∀z,ak call [zF (.lst (ns.map .int)),zF (.int (m:Int)),zF (.int w),zF (.lst (cs.map .int)),zF (.int b),zF (.lst [.int b,.int b']),zF (.int ((cs.length / 2:Nat):Int)),none,none] (f_law_two_rows.body.drop 5)=z->ak call [zF (.lst (ns.map .int)),zF (.int (m:Int)),zF (.int w),none,none,none,none,none,none] f_law_two_rows.body=z:=λz hz=>eb' z (au (false,.int ((cs.length / 2:Nat):Int)) (by
   rw [aN,dX (hlen _ rfl)]
   simp only [pk,bp,aR,dw,d2,↓reduceIte,h2]) hz)
  have q':aa call [zF (.lst (ns.map .int)),zF (.int (m:Int)),zF (.int w),zF (.lst (cs.map .int)),zF (.int b),zF (.lst [.int b,.int b']),zF (.int ((cs.length / 2:Nat):Int)),none,none] (.call 28 [V0,(kI 4)])=zF (.int x4):=c4
  have e0:aa call [zF (.lst (ns.map .int)),zF (.int (m:Int)),zF (.int w),zF (.lst (cs.map .int)),zF (.int b),zF (.lst [.int b,.int b']),zF (.int ((cs.length / 2:Nat):Int)),none,none] (.cmp .eq (.bin .mod (.call 28 [V0,(kI 4)]) (kI 4)) (kI 1))=zF (.bl (x4.fmod 4 == 1)):=by
   rw [ip,aN,ft q']
   simp only [pk,bp,aR,↓reduceIte,bU,d4,jZ]
   rfl
  cases h1:(x4.fmod 4 == 1) with
  | true =>
   rw [h1] at e0
   have b3:=dH (x4.fdiv 4) ((cs.length:Int)+1) (by omega)
   have dl:aT ((cs.length:Int)+1)=true:=jx _ (by omega) (by omega)
   obtain⟨j,ej⟩:∃j:Nat,(x4.fdiv 4).fmod ((cs.length:Int)+1)=(j:Int):=⟨((x4.fdiv 4).fmod ((cs.length:Int)+1)).toNat,by omega⟩
   refine⟨j,by omega,λz hz=>st z (iK e0 (au (false,.int (j:Int)) ?_ rfl) hz)⟩
   rw [aN,eO (r:=(false,.int (x4.fdiv 4))) (by rw [aN,ft q'];simp only [pk,bp,aR,dw,d4,↓reduceIte]),eO (r:=(false,.int ((cs.length:Int)+1))) (by rw [aN,dX (hlen _ rfl)];rfl)]
   simp only [bU,dl,↓reduceIte,ej]
  | false =>
   rw [h1] at e0
   exact⟨cs.length / 2,by omega,λz hz=>st z (bJ e0 hz)⟩
 have gcs:∀k:Nat,(h:k<cs.length)->bu (.lst (cs.map .int)) (.int (k:Int))=zF (.int cs[k]):=λk h=>jL _ k _ (by rw [cu,cz h];rfl)
 obtain⟨A,lA,hA,eA⟩:=zO (call:=call) m cut [zF (.lst [.int b,.int b']),zF (.lst (cs.map .int)),zF (.int (m:Int)),zF (.int w)] (.call 31 [(.ix V2 V0),V0,V3,V4,(.ix V1 (kI 0))]) (by omega) (λk hk=>by
  obtain⟨u,hu,e⟩:=C31 (cs[k]'(by omega)) k b (by omega) hb
  refine⟨u,hu,?_⟩
  have g:=gcs k (by omega)
  simp only [zo,zp,yo,ag,qr,eS,pk,ao,ba,aX,aY,aL,bp,aR,aZ,g,oV,qSi]
  exact e)
 obtain⟨B,lB,hB,eB⟩:=zO (call:=call) m (cs.length - cut) [zF (.lst [.int b,.int b']),zF (.lst (cs.map .int)),zF (.int (cut:Int)),zF (.int (m:Int)),zF (.int w)] (.call 31 [(.ix V2 (.bin .add V3 V0)),V0,V4,V5,(.ix V1 (kI 1))]) (by omega) (λk hk=>by
  obtain⟨u,hu,e⟩:=C31 (cs[cut+k]'(by omega)) k b' (by omega) hb'
  refine⟨u,hu,?_⟩
  have g:=gcs (cut+k) (by omega)
  rw [show ((cut+k:Nat):Int)=(cut:Int)+(k:Int) from Int.natCast_add _ _] at g
  simp only [zo,zp,yo,ag,qr,eS,aN,ir,pk,ao,ba,aX,aY,aL,bp,aR,aZ,g,oV,qSh]
  exact e)
 have qA:aa call [zF (.lst (ns.map .int)),zF (.int (m:Int)),zF (.int w),zF (.lst (cs.map .int)),zF (.int b),zF (.lst [.int b,.int b']),zF (.int (cut:Int)),none,none] (.compR (.call 31 [(.ix V2 V0),V0,V3,V4,(.ix V1 (kI 0))]) 1 [5,3,1,2] (.one 0) [V6])=zT (.lst (A.map (ae m))):=
  tF (ds:=[.int (cut:Int)]) rfl (jO (by omega)) (by rw [aC,List.length_range];exact cJ (by omega)) rfl eA
 have qB:aa call [zF (.lst (ns.map .int)),zF (.int (m:Int)),zF (.int w),zF (.lst (cs.map .int)),zF (.int b),zF (.lst [.int b,.int b']),zF (.int (cut:Int)),zF (.lst (A.map (ae m))),none] (.compR (.call 31 [(.ix V2 (.bin .add V3 V0)),V0,V4,V5,(.ix V1 (kI 1))]) 1 [5,3,6,1,2] (.one 0) [(.bin .sub (.bi .len [V3]) V6)])=zT (.lst (B.map (ae m))):=by
  refine tF (ds:=[.int ((cs.length - cut:Nat):Int)]) ?_ (jO (by omega)) (by rw [aC,List.length_range];exact cJ (by omega)) rfl eB
  rw [eI,eO (r:=(false,.int ((cs.length - cut:Nat):Int)))]
  ·rfl
  ·rw [aN,dX (r:=(false,.int (cs.length:Int))) (cG rfl (by rw [fM,aC]))]
   show zF (D.int ((cs.length:Int) - (cut:Int)))=_
   rw [Int.ofNat_sub hcl]
 have q:aa call [zF (.lst (ns.map .int)),zF (.int (m:Int)),zF (.int w),zF (.lst (cs.map .int)),zF (.int b),zF (.lst [.int b,.int b']),zF (.int (cut:Int)),zF (.lst (A.map (ae m))),zF (.lst (B.map (ae m)))] (.call 28 [V0,(kI 2)])=zF (.int x2):=c2
 have e0:aa call [zF (.lst (ns.map .int)),zF (.int (m:Int)),zF (.int w),zF (.lst (cs.map .int)),zF (.int b),zF (.lst [.int b,.int b']),zF (.int (cut:Int)),zF (.lst (A.map (ae m))),zF (.lst (B.map (ae m)))] (.cmp .eq (.bin .mod (.bin .fdiv (.call 28 [V0,(kI 2)]) (kI 4)) (kI 3)) (kI 2))=zF (.bl ((x2.fdiv 4).fmod 3 == 2)):=by
  rw [ip,aN,aN,ft q]
  simp only [pk,bp,aR,dw,d4,↓reduceIte,bU,d3,jZ]
  rfl
 cases h1:((x2.fdiv 4).fmod 3 == 2) with
 | true =>
  rw [h1] at e0
  exact⟨A,A,⟨by omega,by omega,hA,hA⟩,ec _ (au _ qA (au _ qB (iK e0 (au (false,.lst (A.map (ae m))) rfl rfl) (aE rfl rfl))))⟩
 | false =>
  rw [h1] at e0
  exact⟨A,B,⟨by omega,by omega,hA,hB⟩,ec _ (au _ qA (au _ qB (bJ e0 (aE rfl rfl))))⟩
end
end Dw.T
namespace Dw.T
open Dw PySem
structure La (call:Nat->List D->Option R) (ns:List Int):Prop where
 ce:Ce call ns
 rows:∀(m:Nat) (w:Int),(m=2∨m=3)->0<=w->∃A B:List Th,mi A B/\call 35 [.lst (ns.map .int),.int (m:Int),.int w]=zT (wC m A B)
 beat:∀c:Int,∃t:Int,(0<=t/\t<=10^15)/\call 38 [.int c]=zF (.int t)
 far:∀(m:Nat) (t:Int) (A B:List Th),(0<=t/\t<=10^15)->mi A B->∃far:Int,call 39 [.lst (ns.map .int),.lst (A.map (ae m)),.lst (B.map (ae m)),.int t]=zF (.int far)
 tree:∀(m:Nat) (A:List Th) (rm x:Int),m<=3->(rm=4∨rm=5∨rm=6∨rm=7)->0<=x->A.length<=60->(∀u∈A,ThW u)->∃p:Tr,PpOk ([],p)/\und p=A/\nd p<=200/\call 34 [.lst (A.map (ae m)),.int rm,.int x]=zF (ah m p)
 near:∀(m:Nat) (t far:Int) (l r:Tr),(0<=t/\t<=10^15)->PpOk ([],l)->PpOk ([],r)->nd l * nd r<=100000->∃ps,call 27 [ah m l,ah m r,.int far,.int t]=zF (.tup [.tup (sP (due m t far (und l) (und r))),.tup ps])
 due:∀(m:Nat) (t far:Int) (A B:List Th),(0<=t/\t<=10^15)->mi A B->call 40 [.lst (A.map (ae m)),.lst (B.map (ae m)),.int far,.int t]=zF (.tup (sP (due m t far A B)))
 like:∀(m:Nat) (t far:Int) (A B:List Th),mi A B->call 29 [.tup (sP (Dw.T.due m t far A B)),.tup (sP (Dw.T.due m t far A B))]=zF (.bl true)
section
variable {call:Nat->List D->Option R}
theorem qMP {is:List Nat}{e:C}{b:Bool}{ds:List D}{Z Z':En}{rest:List S}{z:Option Ou}(h:aa call Z e=some (b,.lst ds)) (hs:fq Z is ds=some Z') (k:ak call Z' rest=z):ak call Z (.asgL is e::rest)=z:=by
 rw [eD,tJ,h]
 show (((fq Z is ds).map Ou.nx)).bind _=_
 rw [hs]
 exact k
theorem qRG (ns:List Int) (L:La call ns):ak call [zF (.lst (ns.map .int)),none,none,none,none,none,none,none,none,none,none,none] f_law.body=some (.rt (false,.bl true)):=by
 have c0:=L.ce 0
 have c1:=L.ce 1
 have c2:=L.ce 2
 have c3:=L.ce 3
 generalize fk ns 0=x0 at c0
 generalize fk ns 1=x1 at c1
 generalize fk ns 2=x2 at c2
 generalize fk ns 3=x3 at c3
 have d4:aT 4=true:=by decide
 have d54:aT 54=true:=by decide
 have d1000:aT 1000=true:=by decide
 have d2:aT 2=true:=by decide
 obtain⟨m,hm,em⟩:∃m:Nat,(m=2∨m=3)/\2+(if (x0.fmod 4 == 1)=true then (1:Int) else 0)=(m:Int):=by
  cases x0.fmod 4 == 1 with
  | true=>exact⟨3,.inr rfl,rfl⟩
  | false=>exact⟨2,.inl rfl,rfl⟩
 have b1:=dH x1 54 (by decide)
 have b2:=dH x2 4 (by decide)
 have hrm:4+x2.fmod 4=4∨4+x2.fmod 4=5∨4+x2.fmod 4=6∨4+x2.fmod 4=7:=by omega
 have b3:=dH (x0.fdiv 4) 1000 (by decide)
 generalize hw:x1.fmod 54=w at b1
 generalize hrm':4+x2.fmod 4=rm at hrm
 generalize htn:(x0.fdiv 4).fmod 1000=tn at b3
 obtain⟨A,B,hR,eR⟩:=L.rows m w hm b1.1
 obtain⟨t,ht,et⟩:=L.beat x3
 obtain⟨far,ef⟩:=L.far m t A B ht hR
 obtain⟨l,ol,ul,nl,el⟩:=L.tree m A rm tn (by omega) hrm b3.1 hR.1 hR.2.2.1
 have x2':0<=tn.fdiv 2:=by rw [jj _ (by decide)];exact nN b3.1 (by decide)
 obtain⟨r,or',ur,nr,er⟩:=L.tree m B rm (tn.fdiv 2) (by omega) hrm x2' hR.2.1 hR.2.2.2
 obtain⟨ps,en⟩:=L.near m t far l r ht ol or' (aM (Nat.mul_le_mul nl nr) (by decide))
 rw [ul,ur] at en
 have ed:=L.due m t far A B ht hR
 have ek:=L.like m t far A B hR
 generalize sP (Dw.T.due m t far A B)=ds at en ed ek
 have q0:aa call [zF (.lst (ns.map .int)),none,none,none,none,none,none,none,none,none,none,none] (.call 28 [V0,(kI 0)])=zF (.int x0):=c0
 have q1:aa call [zF (.lst (ns.map .int)),none,none,none,none,none,none,none,none,none,none,none] (.cmp .eq (.bin .mod (.call 28 [V0,(kI 0)]) (kI 4)) (kI 1))=zF (.bl (x0.fmod 4 == 1)):=cP (eO (gP (ft q0) rfl (by rw [bU,Ql d4]))) rfl rfl
 refine au (false,.int (m:Int)) (gP rfl (dX (cG (eO q1) rfl)) (by rw [<-em];rfl)) ?_
 have q2:aa call [zF (.lst (ns.map .int)),zF (.int (m:Int)),none,none,none,none,none,none,none,none,none,none] (.call 28 [V0,(kI 1)])=zF (.int x1):=c1
 refine au (false,.int w) (gP (ft q2) rfl (by rw [bU,Ql d54,hw])) ?_
 have q3:aa call [zF (.lst (ns.map .int)),zF (.int (m:Int)),zF (.int w),none,none,none,none,none,none,none,none,none] (.call 28 [V0,(kI 2)])=zF (.int x2):=c2
 refine au (false,.int rm) (gP rfl (eO (gP (ft q3) rfl (by rw [bU,Ql d4]))) (by rw [<-hrm'];rfl)) ?_
 refine qMP (b:=true) (ds:=[.lst (A.map (ae m)),.lst (B.map (ae m))]) (Z':=[zF (.lst (ns.map .int)),zF (.int (m:Int)),zF (.int w),zF (.int rm),zF (.lst (A.map (ae m))),zF (.lst (B.map (ae m))),none,none,none,none,none,none]) eR rfl ?_
 have q4:aa call [zF (.lst (ns.map .int)),zF (.int (m:Int)),zF (.int w),zF (.int rm),zF (.lst (A.map (ae m))),zF (.lst (B.map (ae m))),none,none,none,none,none,none] (.call 28 [V0,(kI 3)])=zF (.int x3):=c3
 refine au (false,.int t) (yg (fP q4) et) ?_
 refine au (false,.int far) ef ?_
 have q5:aa call [zF (.lst (ns.map .int)),zF (.int (m:Int)),zF (.int w),zF (.int rm),zF (.lst (A.map (ae m))),zF (.lst (B.map (ae m))),zF (.int t),zF (.int far),none,none,none,none] (.call 28 [V0,(kI 0)])=zF (.int x0):=c0
 refine au (false,.int tn) (gP (eO (gP (ft q5) rfl (by rw [dw,Ql d4]))) rfl (by rw [bU,Ql d1000,htn])) ?_
 refine au (false,ah m l) el ?_
 have q6:aa call [zF (.lst (ns.map .int)),zF (.int (m:Int)),zF (.int w),zF (.int rm),zF (.lst (A.map (ae m))),zF (.lst (B.map (ae m))),zF (.int t),zF (.int far),zF (.int tn),zF (ah m l),none,none] (.bin .fdiv V8 (kI 2))=zF (.int (tn.fdiv 2)):=gP rfl rfl (by rw [dw,Ql d2])
 have q7:aa call [zF (.lst (ns.map .int)),zF (.int (m:Int)),zF (.int w),zF (.int rm),zF (.lst (A.map (ae m))),zF (.lst (B.map (ae m))),zF (.int t),zF (.int far),zF (.int tn),zF (ah m l),none,none] (.call 34 [V5,V3,(.bin .fdiv V8 (kI 2))])=zF (ah m r):=er
 refine au (false,ah m r) q7 ?_
 have e0:aa call [zF (.lst (ns.map .int)),zF (.int (m:Int)),zF (.int w),zF (.int rm),zF (.lst (A.map (ae m))),zF (.lst (B.map (ae m))),zF (.int t),zF (.int far),zF (.int tn),zF (ah m l),zF (ah m r),none] (.cmp .eq V6 (kI 0))=zF (.bl (t == 0)):=cP rfl rfl rfl
 have q8:aa call [zF (.lst (ns.map .int)),zF (.int (m:Int)),zF (.int w),zF (.int rm),zF (.lst (A.map (ae m))),zF (.lst (B.map (ae m))),zF (.int t),zF (.int far),zF (.int tn),zF (ah m l),zF (ah m r),zF (.tup [.tup ds,.tup ps])] (.call 40 [V4,V5,V7,V6])=zF (.tup ds):=ed
 have fin:ak call [zF (.lst (ns.map .int)),zF (.int (m:Int)),zF (.int w),zF (.int rm),zF (.lst (A.map (ae m))),zF (.lst (B.map (ae m))),zF (.int t),zF (.int far),zF (.int tn),zF (ah m l),zF (ah m r),zF (.tup [.tup ds,.tup ps])] (f_law.body.drop 10)=some (.rt (false,.bl true)):=by
  refine bJ (x:=false) rfl (aE ?_ rfl)
  show aa call [zF (.lst (ns.map .int)),zF (.int (m:Int)),zF (.int w),zF (.int rm),zF (.lst (A.map (ae m))),zF (.lst (B.map (ae m))),zF (.int t),zF (.int far),zF (.int tn),zF (ah m l),zF (ah m r),zF (.tup [.tup ds,.tup ps])] (.call 29 [(.ix lM (kI 0)),(.call 40 [V4,V5,V7,V6])])=_
  exact gS (x:=.tup ds) rfl (fP q8) ek
 cases h0:(t == 0) with
 | true =>
  rw [h0] at e0
  have t0:t=0:=eq_of_beq h0
  have e2:call 27 [ah m l,ah m r,.int far,.int 0]=zF (.tup [.tup ds,.tup ps]):=by rw [<-t0];exact en
  exact iK e0 (au (false,.tup [.tup ds,.tup ps]) e2 rfl) fin
 | false =>
  rw [h0] at e0
  exact v5 e0 (au (false,.tup [.tup ds,.tup ps]) en rfl) fin
end
theorem qPm (l:List (Int×Int)):(sP l).length=l.length:=by
 unfold sP
 rw [aC,(m9 _).length_eq,aC]
theorem qRP {l:List (Int×Int)}{d:D}(h:d∈sP l):∃r:Int×Int,d=bq r:=by
 obtain⟨t,ht,rfl⟩:=yaN.mp h
 obtain⟨r,_,rfl⟩:=yaN.mp ((m9 _).mem_iff.mp ht)
 exact⟨r,rfl⟩
theorem c_law48 (n:Nat) (ns:List Int) (hn:ns.length<=63):aD tab (n+15) 41 [.lst (ns.map .int)]=zF (.bl true):=by
 have ce:∀k,Ce (aD tab (k+1)) ns:=λk j=>aK (n:=k) vp rfl rfl (qO2 ns j)
 have dr:∀k,BB (aD tab (k+1)):=λk s j x h1 h2 h3=>aK (n:=k) vo rfl rfl (qO0 s j x h1 h2 h3)
 have dt:∀k m t,(0<=t/\t<=10^15)->Dt (aD tab (k+1)) m t:=λk m t h c=>aK (n:=k) vh rfl rfl (qRF m c t (by omega))
 have gt:∀k m,Gt (aD tab (k+1)) m:=λk m f g hf hg=>aK (n:=k) vg rfl rfl (qOV m f g hf hg)
 refine aK (n:=n+14) qX rfl rfl (qRG ns ⟨ce (n+13),λm w hm hw=>?_,λc=>?_,λm t A B ht hR=>?_,λm A rm x hm hr hx hl hA=>?_,λm t far l r ht hl hr hM=>?_,λm t far A B ht hR=>?_,λm t far A B hR=>?_⟩)
 ·obtain⟨A,B,hR,e⟩:=qOU (call:=aD tab (n+13)) ns hn m (by omega) w hw (ce (n+12)) λc k b hk hb=>by
   obtain⟨u,hu,e⟩:=qMD (call:=aD tab (n+12)) c k m w b hk (by omega) hw hb (dr (n+11))
   exact⟨u,hu,aK (n:=n+12) vn rfl rfl e⟩
  exact⟨A,B,hR,aK (n:=n+13) vi rfl rfl e⟩
 ·obtain⟨t,ht,e⟩:=qO3 (call:=aD tab (n+13)) c
  exact⟨t,ht,aK (n:=n+13) ve rfl rfl e⟩
 ·obtain⟨far,e⟩:=qOW (call:=aD tab (n+13)) m t ht ns A B hR.2.2.1 hR.2.2.2 (by have:=hR.1;omega) (by have:=hR.2.1;omega) (ce (n+12)) (dt (n+12) m t ht) (gt (n+12) m)
  exact⟨far,aK (n:=n+13) vd rfl rfl e⟩
 ·obtain⟨p,h1,h2,h3,e⟩:=qOS (call:=aD tab (n+13)) m A rm x hx hl hA (λts ok=>by
   obtain⟨o,g1,g2,e⟩:=qOT (call:=aD tab (n+12)) m ts ok hm
   exact⟨o,g1,g2,aK (n:=n+12) vm rfl rfl e⟩) (λk y hk hy=>by
   obtain⟨q,g1,g2,g3,e⟩:=qO1 (call:=aD tab (n+12)) k rm y hk hr hy
   exact⟨q,g1,g2,g3,aK (n:=n+12) vk rfl rfl e⟩)
  exact⟨p,h1,h2,h3,aK (n:=n+13) vj rfl rfl e⟩
 ·exact qQO t ht (n+1) m far l r hl hr hM
 ·exact aK (n:=n+13) vc rfl rfl (qOX m t far ht A B hR.2.2.1 hR.2.2.2 (by have:=hR.1;omega) (by have:=hR.2.1;omega) (dt (n+12) m t ht) (gt (n+12) m))
 ·refine aK (n:=n+13) nY rfl rfl (zB _ ?_ λd hd=>?_)
  ·rw [qPm]
   exact aM (pM m t far A B) (aM (Nat.mul_le_mul hR.1 hR.2.1) (by decide))
  ·obtain⟨r,rfl⟩:=qRP hd
   refine aK (n:=n+12) nY rfl rfl (zB [.int r.1,.int r.2] (show 2<=10000 by decide) λd hd=>?_)
   have:∃a:Int,d=.int a:=by
    rcases yag.mp hd with rfl|hd
    ·exact⟨_,rfl⟩
    ·rcases yag.mp hd with rfl|hd
     ·exact⟨_,rfl⟩
     ·cases hd
   obtain⟨a,rfl⟩:=this
   exact aK (n:=n+11) nY rfl rfl (qJR a)
end Dw.T
namespace Dw.K48
open PySem L2 Dw Dw.T
open PySem.W (nsIn fnOf codeIn keepIn findIn mg_of mg_none_of Frag)
noncomputable def gx:Gx:=⟨("near_pairs",27)::("side_gap",0)::("box_gap",1)::("side_at",2)::("frame_at",3)::("thing_handle",4)::("thing_swath",5)::("thing_box",6)::("told_cover",7)::("told_heart",8)::("is_leaf",9)::("page_told",10)::("page_parts",11)::("things_in",12)::("cover_at",13)::("heart_at",14)::("parts_or_itself",15)::("places_behind",16)::("join_cut",17)::("join_paper",18)::("is_open_leaves",19)::("boxes_of",20)::("gaps_of_leaves",21)::("is_apart",22)::("is_whole_near",23)::("pairs_word",24)::("pairs_of_whole",25)::("pairs_of_rows",26)::("_law_cell_at",28)::("_law_alike",29)::("_law_draw",30)::("_law_thing",31)::("_law_told",32)::("_law_cuts",33)::("_law_tree",34)::("_law_two_rows",35)::("_law_frame_at",36)::("_law_gap",37)::("_law_beat",38)::("_law_far",39)::("_law_due",40)::("law",41)::[],[],("near_pairs",3,0)::[]⟩
theorem x8:∀x∈bQ,gx.defs.lookup x=none:=by decide +kernel
abbrev cq (s:Stmt):=eY gx 60 (ay s) (bP (ay s)) (gN 60 (bP (ay s)) (bT s)) (bT s)
def rf (s:Stmt) (ps:List Str):Bool:=(ay s).kind == .function&&!(ay s).isCoroutine&&!(ay s).isGenerator&&decide (bP (ay s)).Nodup&&decide ((bP (ay s)).take ps.length=ps)&&ps.all (λx=>(ay s).names.lookup x == some .local||(ay s).names.lookup x == some .cell)&&(ay s).names.all λy=>y.2 != .free
theorem rP {s:Stmt}{ps:List Str}(h:rf s ps=true):FnScope (bP (ay s)) ps (ay s):=by
 unfold rf at h
 simp only [aI,List.all_eq_true,dZ,beq_iff_eq,bne_iff_ne,qK,decide_eq_true_eq] at h
 obtain⟨⟨⟨⟨⟨⟨h1,h2⟩,h3⟩,h4⟩,h5⟩,h6⟩,h7⟩:=h
 exact⟨h1,h2,h3,h4,h5,h6,h7⟩
theorem us1 {P:List Value->Prop}(h:∀a,P [a]) (us:List Value) (hl:us.length=1):P us:=by
 obtain⟨a,rfl⟩:=List.length_eq_one_iff.mp hl
 exact h a
theorem us2 {P:List Value->Prop}(h:∀a0 a1,P [a0,a1]) (us:List Value) (hl:us.length=2):P us:=by
 cases us with
 | nil=>cases hl
 | cons a r=>exact us1 (P:=λr=>P (a::r)) (h a) r (nG hl)
theorem qU {P:List Value->Prop}(h:∀a0 a1 a2,P [a0,a1,a2]) (us:List Value) (hl:us.length=3):P us:=by
 cases us with
 | nil=>cases hl
 | cons a r=>exact us2 (P:=λr=>P (a::r)) (h a) r (nG hl)
theorem qT {P:List Value->Prop}(h:∀a0 a1 a2 a3,P [a0,a1,a2,a3]) (us:List Value) (hl:us.length=4):P us:=by
 cases us with
 | nil=>cases hl
 | cons a r=>exact qU (P:=λr=>P (a::r)) (h a) r (nG hl)
theorem us5 {P:List Value->Prop}(h:∀a0 a1 a2 a3 a4,P [a0,a1,a2,a3,a4]) (us:List Value) (hl:us.length=5):P us:=by
 cases us with
 | nil=>cases hl
 | cons a r=>exact qT (P:=λr=>P (a::r)) (h a) r (nG hl)
theorem Bv {fd:FuncData}{ps:List Str}(hp:ps.length=1) (h:∀a0,bindArgs fd ⟨[a0],[]⟩=pure (ps.zip [a0])) (us:List Value) (hl:us.length=ps.length):bindArgs fd ⟨us,[]⟩=pure (ps.zip us):=us1 (P:=λus=>bindArgs fd ⟨us,[]⟩=pure (ps.zip us)) h us (hl.trans hp)
theorem Bu {fd:FuncData}{ps:List Str}(hp:ps.length=2) (h:∀a0 a1,bindArgs fd ⟨[a0,a1],[]⟩=pure (ps.zip [a0,a1])) (us:List Value) (hl:us.length=ps.length):bindArgs fd ⟨us,[]⟩=pure (ps.zip us):=us2 (P:=λus=>bindArgs fd ⟨us,[]⟩=pure (ps.zip us)) h us (hl.trans hp)
theorem Bt {fd:FuncData}{ps:List Str}(hp:ps.length=3) (h:∀a0 a1 a2,bindArgs fd ⟨[a0,a1,a2],[]⟩=pure (ps.zip [a0,a1,a2])) (us:List Value) (hl:us.length=ps.length):bindArgs fd ⟨us,[]⟩=pure (ps.zip us):=qU (P:=λus=>bindArgs fd ⟨us,[]⟩=pure (ps.zip us)) h us (hl.trans hp)
theorem Bs {fd:FuncData}{ps:List Str}(hp:ps.length=4) (h:∀a0 a1 a2 a3,bindArgs fd ⟨[a0,a1,a2,a3],[]⟩=pure (ps.zip [a0,a1,a2,a3])) (us:List Value) (hl:us.length=ps.length):bindArgs fd ⟨us,[]⟩=pure (ps.zip us):=qT (P:=λus=>bindArgs fd ⟨us,[]⟩=pure (ps.zip us)) h us (hl.trans hp)
theorem Br {fd:FuncData}{ps:List Str}(hp:ps.length=5) (h:∀a0 a1 a2 a3 a4,bindArgs fd ⟨[a0,a1,a2,a3,a4],[]⟩=pure (ps.zip [a0,a1,a2,a3,a4])) (us:List Value) (hl:us.length=ps.length):bindArgs fd ⟨us,[]⟩=pure (ps.zip us):=us5 (P:=λus=>bindArgs fd ⟨us,[]⟩=pure (ps.zip us)) h us (hl.trans hp)
theorem fc {α:Type}{p:α->Prop}{a:α}{l:List α}(h:p a) (t:∀x∈l,p x):∀x∈a::l,p x:=List.forall_mem_cons.mpr ⟨h,t⟩
section
variable {K:Frag}{h:Heap}{mg:Str->Option Value}
abbrev Bd (x q:Str) (s:Stmt) (ps:List Str):Prop:=∀(kV doc pm:Value) (an:Option Addr) (cdv ct:Value) (us:List Value),us.length=ps.length->bindArgs (fnOf x q (fQ s) (bT s) (ay s) .none kV doc pm an cdv ct) ⟨us,[]⟩=pure (ps.zip us)
theorem aU (X:K.In h) (G:h.Ns mainGlobals mg) {x:Str}(m:Str) (t:Tok) (i f c:Nat) {g:Nat}(ps:List Str) (fd:Fd) (tt:tab[g]?=some fd) (a:nsIn K mainGlobals x=some (some (.ref f))) (l:K.lookup f=some (fo x x (aq i) m t c)) (cc:codeIn K (.ref c) x=true) (k:keepIn K (.ref f)=true) (nd:gx.dfl.lookup x=none) (b:Bd x x (aq i) ps) (sc:rf (aq i) ps=true) (cs:cq (aq i)=some fd.body) (np:fd.np=ps.length) (ns:fd.ns=(bP (ay (aq i))).length):DefIn K mg gx tab 60 x g∨LdIn K mg gx tab 60 x g:=
 .inl ⟨⟨f,_,aq i,ps,fd,mg_of X G a,x5 (rY (st:=aq i) l cc k),(rY (st:=aq i) l cc k).binds b,rP sc,cs,tt,np,ns,λm_ d_ e=>nomatch (nd.symm.trans e)⟩⟩
theorem qQI {x:Str}{m m_:Nat}{d d_:Int}(h:gx.dfl.lookup x=some (m,d)) {p:Int->Prop}(hp:p d) (e:gx.dfl.lookup x=some (m_,d_)):p d_:=by
 rw [h] at e
 cases e
 exact hp
end
section
variable {h:Heap}{mg:Str->Option Value}{P:Params}(X:(heap P).In h) (G:h.Ns mainGlobals mg)
include X G
omit X G in
theorem hLb:LamBody gx 60 (ay (aq 33)) (bP (ay (aq 33))) (gN 60 (bP (ay (aq 33))) (bT (aq 33))) (bT (aq 33)) f_near_pairs.body lamL 42:=by
 refine⟨⟨[],[(bT (aq 33)).getD 1 (.Pass ⟨0,0,0,0⟩)],[],f_near_pairs.body.drop 1,.Assign [.Name "rows" ⟨104,4,104,8⟩] (.Call (.Name "join_cut" ⟨104,11,104,19⟩) ([.Name "one" ⟨104,20,104,23⟩,.Name "two" ⟨104,25,104,28⟩]++[.Lambda lamL.la lamL.e lamL.sc lamL.pos]) [] ⟨104,11,104,85⟩) ⟨104,4,104,85⟩,[.set 4 false (.lamc 17 [V0,V1] 42 [3,2])],"join_cut",⟨104,11,104,19⟩,⟨104,11,104,85⟩,[.Name "one" ⟨104,20,104,23⟩,.Name "two" ⟨104,25,104,28⟩],[V0,V1],17,[3,2],?_,?_,?_,?_,.inr (.inl ⟨"rows",_,_,4,false,rfl,rfl,?_,?_,λz=>nomatch z⟩),?_,?_,?_,⟨?_,?_,trivial⟩,?_⟩⟩
 all_goals kernel_rfl
theorem hLd:LdIn (heap P) mg gx tab 60 "near_pairs" 27:=by
 have l:(heap P).lookup 193=some (AO "near_pairs" "near_pairs" (aq 33) mF 307 192 186):=by kernel_rfl
 refine⟨⟨193,192,aq 33,["one","two","far","beat"],f_near_pairs,_,_,_,_,_,_,_,_,_,42,lamL,mg_of X G ?_,?_,l,(λs us hK hl=>qT (P:=λus=>BindsTo s _ ⟨us,[]⟩ (List.zip ["one","two","far","beat"] (us++[]))) (λ_ _ _ _=>BindsTo.of_defaults rfl (hK 186 ({ cls:=.type "tuple",data:=.seq #[.int 0 402] }) (by kernel_rfl)) rfl rfl rfl) us (by simpa using hl)),?_,?_,⟨4,_,mg_of X G ?_,by decide,by decide,by decide,(by kernel_rfl:(heap P).lookup 4=some { cls:=.type "module",dict:=some 0,data:=.plain }),rfl,rfl,rfl⟩,rP ?_,?_,?_,?_,hLb,?_,zv ?_,?_,λenv=>?_,(λ_ _ e=>qQI (x:="near_pairs") (m:=3) (d:=0) (by kernel_rfl) (p:=λd=>∃t,Binds _ _ _ [.int d t]) ⟨402,(λs us hK hl=>qU (P:=λus=>BindsTo s _ ⟨us,[]⟩ (List.zip ["one","two","far","beat"] (us++[.int 0 402]))) (λ_ _ _=>BindsTo.of_defaults rfl (hK 186 ({ cls:=.type "tuple",data:=.seq #[.int 0 402] }) (by kernel_rfl)) rfl rfl rfl) us (by simpa using hl))⟩ e)⟩⟩
 all_goals first|kernel_rfl|exact λ_ _ _ _ _ _=>Bv rfl λ_=>rfl|exact λ_ _ _ _ _ _=>Bu rfl λ_ _=>rfl|exact λ_ _ _ _ _ _=>Bt rfl λ_ _ _=>rfl|exact λ_ _ _ _ _ _=>Bs rfl λ_ _ _ _=>rfl|exact λ_ _ _ _ _ _=>Br rfl λ_ _ _ _ _=>rfl
theorem hd:∀p∈gx.defs,DefIn (heap P) mg gx tab 60 p.1 p.2∨LdIn (heap P) mg gx tab 60 p.1 p.2:=by
 refine fc (.inr (hLd X G)) (
  fc (aU X G mA 187 1 21 20 ["one","two"] f_side_gap t0 ?_ ?_ ?_ ?_ ?_ ?_ ?_ ?_ ?_ ?_) (
  fc (aU X G mA 187 2 26 25 ["one","two"] f_box_gap t1 ?_ ?_ ?_ ?_ ?_ ?_ ?_ ?_ ?_ ?_) (
  fc (aU X G mB 203 4 33 32 ["side","beat"] f_side_at t2 ?_ ?_ ?_ ?_ ?_ ?_ ?_ ?_ ?_ ?_) (
  fc (aU X G mB 203 5 38 37 ["frame","beat"] f_frame_at t3 ?_ ?_ ?_ ?_ ?_ ?_ ?_ ?_ ?_ ?_) (
  fc (aU X G mC 219 7 45 44 ["thing"] uE t4 ?_ ?_ ?_ ?_ ?_ ?_ ?_ ?_ ?_ ?_) (
  fc (aU X G mC 219 8 52 51 ["thing"] uD t5 ?_ ?_ ?_ ?_ ?_ ?_ ?_ ?_ ?_ ?_) (
  fc (aU X G mC 219 9 59 58 ["thing","beat"] uk t6 ?_ ?_ ?_ ?_ ?_ ?_ ?_ ?_ ?_ ?_) (
  fc (aU X G mC 219 10 66 65 ["told"] uG t7 ?_ ?_ ?_ ?_ ?_ ?_ ?_ ?_ ?_ ?_) (
  fc (aU X G mC 219 11 73 72 ["told"] uH t8 ?_ ?_ ?_ ?_ ?_ ?_ ?_ ?_ ?_ ?_) (
  fc (aU X G mD 257 13 80 79 ["page"] f_is_leaf t9 ?_ ?_ ?_ ?_ ?_ ?_ ?_ ?_ ?_ ?_) (
  fc (aU X G mD 257 14 87 86 ["page"] f_page_told vJ ?_ ?_ ?_ ?_ ?_ ?_ ?_ ?_ ?_ ?_) (
  fc (aU X G mD 257 15 94 93 ["page"] f_page_parts vI ?_ ?_ ?_ ?_ ?_ ?_ ?_ ?_ ?_ ?_) (
  fc (aU X G mD 257 16 101 100 ["page"] f_things_in qY ?_ ?_ ?_ ?_ ?_ ?_ ?_ ?_ ?_ ?_) (
  fc (aU X G mE 289 18 108 107 ["told","beat"] um vH ?_ ?_ ?_ ?_ ?_ ?_ ?_ ?_ ?_ ?_) (
  fc (aU X G mE 289 19 115 114 ["told","beat"] uo vG ?_ ?_ ?_ ?_ ?_ ?_ ?_ ?_ ?_ ?_) (
  fc (aU X G mF 307 21 120 119 ["path","page"] f_parts_or_itself vF ?_ ?_ ?_ ?_ ?_ ?_ ?_ ?_ ?_ ?_) (
  fc (aU X G mF 307 22 125 124 ["place"] f_places_behind vE ?_ ?_ ?_ ?_ ?_ ?_ ?_ ?_ ?_ ?_) (
  fc (aU X G mF 307 23 132 131 ["one","two","word_of"] f_join_cut vD ?_ ?_ ?_ ?_ ?_ ?_ ?_ ?_ ?_ ?_) (
  fc (aU X G mF 307 24 137 136 ["rows"] f_join_paper vC ?_ ?_ ?_ ?_ ?_ ?_ ?_ ?_ ?_ ?_) (
  fc (aU X G mF 307 25 144 143 ["place","word"] f_is_open_leaves vB ?_ ?_ ?_ ?_ ?_ ?_ ?_ ?_ ?_ ?_) (
  fc (aU X G mF 307 26 149 148 ["things","beat"] f_boxes_of vA ?_ ?_ ?_ ?_ ?_ ?_ ?_ ?_ ?_ ?_) (
  fc (aU X G mF 307 27 154 153 ["page","other","beat"] f_gaps_of_leaves vz ?_ ?_ ?_ ?_ ?_ ?_ ?_ ?_ ?_ ?_) (
  fc (aU X G mF 307 28 161 160 ["told","other","far","beat"] f_is_apart vy ?_ ?_ ?_ ?_ ?_ ?_ ?_ ?_ ?_ ?_) (
  fc (aU X G mF 307 29 168 167 ["told","other","far","beat"] f_is_whole_near vx ?_ ?_ ?_ ?_ ?_ ?_ ?_ ?_ ?_ ?_) (
  fc (aU X G mF 307 30 175 174 ["told","other","far","beat"] f_pairs_word vw ?_ ?_ ?_ ?_ ?_ ?_ ?_ ?_ ?_ ?_) (
  fc (aU X G mF 307 31 180 179 ["page","other"] f_pairs_of_whole vt ?_ ?_ ?_ ?_ ?_ ?_ ?_ ?_ ?_ ?_) (
  fc (aU X G mF 307 32 185 184 ["rows","far","beat"] f_pairs_of_rows vq ?_ ?_ ?_ ?_ ?_ ?_ ?_ ?_ ?_ ?_) (
  fc (aU X G mG 416 35 200 199 ["script","k"] f_law_cell_at vp ?_ ?_ ?_ ?_ ?_ ?_ ?_ ?_ ?_ ?_) (
  fc (aU X G mG 416 36 207 206 ["found","due"] f_law_alike nY ?_ ?_ ?_ ?_ ?_ ?_ ?_ ?_ ?_ ?_) (
  fc (aU X G mG 416 37 214 213 ["seed","j","many"] f_law_draw vo ?_ ?_ ?_ ?_ ?_ ?_ ?_ ?_ ?_ ?_) (
  fc (aU X G mG 416 38 221 220 ["cell","k","sides","way","base"] f_law_thing vn ?_ ?_ ?_ ?_ ?_ ?_ ?_ ?_ ?_ ?_) (
  fc (aU X G mG 416 39 226 225 ["things"] f_law_told vm ?_ ?_ ?_ ?_ ?_ ?_ ?_ ?_ ?_ ?_) (
  fc (aU X G mG 416 40 231 230 ["many","room","cell"] f_law_cuts vk ?_ ?_ ?_ ?_ ?_ ?_ ?_ ?_ ?_ ?_) (
  fc (aU X G mG 416 41 236 235 ["things","room","cell"] f_law_tree vj ?_ ?_ ?_ ?_ ?_ ?_ ?_ ?_ ?_ ?_) (
  fc (aU X G mG 416 42 241 240 ["script","sides","way"] f_law_two_rows vi ?_ ?_ ?_ ?_ ?_ ?_ ?_ ?_ ?_ ?_) (
  fc (aU X G mG 416 43 246 245 ["frame","beat"] f_law_frame_at vh ?_ ?_ ?_ ?_ ?_ ?_ ?_ ?_ ?_ ?_) (
  fc (aU X G mG 416 44 253 252 ["ones","others"] f_law_gap vg ?_ ?_ ?_ ?_ ?_ ?_ ?_ ?_ ?_ ?_) (
  fc (aU X G mG 416 45 260 259 ["cell"] f_law_beat ve ?_ ?_ ?_ ?_ ?_ ?_ ?_ ?_ ?_ ?_) (
  fc (aU X G mG 416 46 267 266 ["script","ones","others","beat"] f_law_far vd ?_ ?_ ?_ ?_ ?_ ?_ ?_ ?_ ?_ ?_) (
  fc (aU X G mG 416 47 272 271 ["ones","others","far","beat"] f_law_due vc ?_ ?_ ?_ ?_ ?_ ?_ ?_ ?_ ?_ ?_) (
  fc (aU X G mG 416 48 279 278 ["script"] f_law qX ?_ ?_ ?_ ?_ ?_ ?_ ?_ ?_ ?_ ?_) (
  λ_ h=>nomatch h))))))))))))))))))))))))))))))))))))))))))
 all_goals first|kernel_rfl|exact λ_ _ _ _ _ _=>Bv rfl λ_=>rfl|exact λ_ _ _ _ _ _=>Bu rfl λ_ _=>rfl|exact λ_ _ _ _ _ _=>Bt rfl λ_ _ _=>rfl|exact λ_ _ _ _ _ _=>Bs rfl λ_ _ _ _=>rfl|exact λ_ _ _ _ _ _=>Br rfl λ_ _ _ _ _=>rfl
theorem hb:∀x∈bQ,mg x=none:=by
 refine fc (mg_none_of X G ?_) (fc (mg_none_of X G ?_) (fc (mg_none_of X G ?_) (fc (mg_none_of X G ?_) (fc (mg_none_of X G ?_) (fc (mg_none_of X G ?_) (fc (mg_none_of X G ?_) (fc (mg_none_of X G ?_) (fc (mg_none_of X G ?_) (fc (mg_none_of X G ?_) (fc (mg_none_of X G ?_) (fc (mg_none_of X G ?_) (fc (mg_none_of X G ?_) (fc (mg_none_of X G ?_) (fc (mg_none_of X G ?_) (fc (mg_none_of X G ?_) (fc (mg_none_of X G ?_) (fc (mg_none_of X G ?_) (λ_ h=>nomatch h))))))))))))))))))
 all_goals kernel_rfl
end
theorem qk:∀j L,lamX.lookup j=some L->LamIn gx tab 60 j L:=by
 intro j L h
 have e:=yaB.mp (show (j,L)∈[(42,lamL)] from tP h)
 cases e
 refine⟨⟨["told","other"],(.call 24 [V0,V1,V3,V2]),rT,?_,?_,?_,?_,?_,?_,λi z=>(nomatch z),?_,?_,?_,?_,?_,?_,λclos pm c ctv us hl=>us2 (P:=λus=>bindArgs (PySem.W.kla_fn "<lambda>" lamL.q lamL.la lamL.e lamL.sc clos pm (.ref c) ctv) ⟨us,[]⟩=pure (List.zip (["told","other"]:List Str) us)) (λ_ _=>rfl) us hl⟩⟩
 all_goals first|kernel_rfl|decide +kernel
theorem nh {l:Program}{w:World}{h:Heap}{mg:Str->Option Value}(X:(heap w.params).In h) (G:h.Ns mainGlobals mg):CnD l w (heap w.params) mg gx:=by
 exact⟨λx i h=>(nomatch h)⟩
theorem fin {l:PySem.W.OpenLaw}{w:World}{h:Heap}{mg:Str->Option Value}{fa:Addr}(X:(heap w.params).In h) (G:h.Ns mainGlobals mg) (hfa:mg "law"=some (.ref fa)):∃fd:FuncData,(∀(s:Shared) (v:Value),BindsTo s fd ⟨[v],[]⟩ [("script",v)])/\∀base:Heap,(heap w.params).In base->base.Ns mainGlobals mg->FnOk l.prog w (heap w.params) mg base fw 17 fa fd ["script"] (jr (heap w.params) 1 (aD tab 15 41)):=by
 have e:=hfa.symm.trans (mg_of X G (n:="law") (v:=.ref 279) (by kernel_rfl))
 cases e
 have l0:(heap w.params).lookup 279=some (fo "law" "law" (aq 48) mG 416 278):=by kernel_rfl
 exact⟨_,λs v=>.of_eq rfl,λbase kb _=>xY (fuel:=60) x8 (hb X G) (nh X G) (stp x8 (hb X G) (nh X G) kb (λx i h=>hd X G (x,i) (dg h)) qk 14) (x:="law") (qn:="law") (st:=aq 48) (ps:=["script"]) (fd:=f_law) (x5 (rY (st:=aq 48) l0 (by kernel_rfl) (by kernel_rfl))) (rP (by kernel_rfl)) (by kernel_rfl) qX rfl (by kernel_rfl)⟩
end Dw.K48
open PySem PySem.W PyProof.Rows
set_option maxRecDepth 100000 in
set_option maxHeartbeats 0 in
theorem PySem.Challenge.cw_driftwood_k48_whole_near_pairs_holds : PySem.Challenge.rw_driftwood_k48_whole_near_pairs.Holds := by
 rw [Dw.K48.lw_eq]
 w_on
 refine holds_law Dw.K48.said λsaid=>?_
 refine holds_open (q:=Dw.K48.q) (loose:=Dw.K48.lo) (Xt:=λs=>xlAt Dw.K48.q [] s&&recOk (RowW.records Dw.K48.lw.row.toRowW) s) (XP:=XL Dw.K48.q []) (Yf:=Hook.obs Dw.K48.hk) (Ya:=Hook.val Dw.K48.hk) (YP:=Hook.says Dw.K48.hk) (N:=4000) Dw.K48.hl (Hook.of Dw.K48.hk) (Hook.keeps Dw.K48.hk) (λs e=>xl_of s (Bool.and_eq_true_iff.mp e).1) XL.keeps (by rfl) (by rfl) (by rfl) (λs e=>recFacts_of (Bool.and_eq_true_iff.mp e).2) (by rfl) (by assumption) (by kernel_rfl) ⟨rfl,rfl,rfl,rfl,rfl,by kernel_rfl⟩ ?hw ?hc
 case hw=>w_witness2
 exact Dw.dw_walk (l:=Dw.K48.lw) (tab:=Dw.T.tab) (n:=15) (i:=41) (λns h _=>Dw.T.c_law48 0 ns h) rfl rfl ⟨rfl,by decide,by decide⟩ (λw h Y=>PySem.W.km_in_of Y) (λt hm=>by have e:=yaB.mp (show t∈[_] from hm);subst e;rfl) (λw h Y t hm=>PySem.W.km_tabs_of Y t.1 (by have e:=yaB.mp (show t∈[_] from hm);subst e;decide)) (λw t hm=>by have e:=yaB.mp (show t∈[_] from hm);subst e;exact⟨⟨192,by kernel_rfl⟩,by kernel_rfl⟩) λw mg fa h KX G hmg=>Dw.K48.fin KX G hmg
