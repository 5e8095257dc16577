import PyProof.Rows.All
import Wide.All
import OpenK.AllK
import Wide.FinOn
import Lean
import PyProof.EqAt
import PyProof.EqKinds
import PyProof.TupleCall
import KE.KSortAsk
import KE.KSortTup
import PySem.Challenge.RW_driftwood_k81_whole_no_wrong_nearest_tak
set_option linter.all false
set_option Elab.async false
set_option maxRecDepth 100000
set_option compiler.extract_closed false
set_option maxHeartbeats 4000000
noncomputable section
abbrev Qa:=@PySem.Str.ofString
abbrev Qb:=@PySem.W.Frag
abbrev Qc:=@PySem.wpAny_bind
abbrev Qd:=@PySem.wpAny_pure
abbrev Qe:=@PySem.wpAny_mono
abbrev Qf:=@PySem.wpAny_field
abbrev Qg:=@PySem.Heap.get?_push_of_some
abbrev Qh:=@PySem.Heap.get?_push_size
abbrev Qi:=@PySem.Heap.lt_size
abbrev Qj:=@decide_eq_false
abbrev Qk:=@decide_eq_true
abbrev Ql:=@if_pos
abbrev Qm:=@if_neg
abbrev Qn:=@absurd
abbrev Qo:=@PySem.bootBuiltins
abbrev Qp:=@of_decide_eq_true
abbrev aZ:=@List.size_toArray
abbrev aY:=@Bool.and_eq_true
abbrev aK:=@Nat.le_refl
abbrev cV:=@List.getElem?_eq_getElem
abbrev yae:=@Option.map_eq_some_iff
abbrev cM:=@List.getElem?_set_ne
abbrev yag:=@List.mem_cons
abbrev eF:=@List.getD_eq_getElem?_getD
abbrev dM:=@List.mem_cons_of_mem
abbrev dz:=@List.mem_cons_self
abbrev dy:=@Nat.lt_of_lt_of_le
abbrev yal:=@List.getElem?_eq_some_iff
abbrev cD:=@Nat.ne_of_lt
abbrev fk:=@List.mem_append_right
abbrev gP:=@PyProof.Rows.callWith_type1
abbrev eD:=@List.not_mem_nil
abbrev fD:=@Bool.false_ne_true
abbrev fj:=@Option.bind_some
abbrev gn:=@PySem.mem_of_lookup
abbrev yat:=@PyProof.Rows.slot_tuple_getitem
abbrev dR:=@Nat.le_trans
abbrev fW:=@List.length_cons
abbrev fC:=@Bool.or_eq_true
abbrev gk:=@List.getElem?_map
abbrev fV:=@List.length_map
abbrev fU:=@Option.some.inj
abbrev ft:=@List.all_cons
abbrev k7:=@List.getElem?_append_right
abbrev gR:=@List.getElem_mem
abbrev fX:=@Nat.lt_irrefl
abbrev k6:=@List.getElem?_replicate
abbrev i8:=@List.length_append
abbrev yaG:=@List.length_eq_zero_iff
abbrev iw:=@List.length_take
abbrev k0:=@List.getElem?_set_self
abbrev fq:=@Nat.zero_le
abbrev m8:=@List.getElem?_append_left
abbrev jM:=@Bool.false_eq_true
abbrev yaM:=@List.all_eq_true
abbrev gQ:=@List.map_cons
abbrev yaO:=@List.mem_map
abbrev jL:=@Int.toNat_natCast
abbrev yaQ:=@List.mem_filter
abbrev i7:=@List.append_nil
abbrev kZ:=@List.replicate_succ
abbrev jK:=@List.lookup_cons
abbrev yaU:=@List.pairwise_cons
abbrev yaV:=@List.mem_iff_getElem
abbrev pI:=@PySem.slot_listiter_next
abbrev iv:=@Nat.ne_of_gt
abbrev m7:=@List.length_zipWith
abbrev pH:=@PySem.F.plainAttrs_list
abbrev yba:=@List.nodup_cons
abbrev kY:=@PySem.W.kia_one
abbrev mZ:=@List.reverse_cons
abbrev mY:=@List.append_assoc
abbrev jJ:=@Bool.and_true
abbrev mX:=@List.flatMap_cons
abbrev pB:=@List.mem_of_getElem?
abbrev kX:=@Bool.and_false
abbrev sO:=@Array.getElem?_eq_getElem
abbrev sL:=@List.drop_eq_getElem_cons
abbrev mW:=@List.any_eq_true
abbrev pA:=@List.map_congr_left
abbrev pz:=@Array.length_toList
abbrev sJ:=@PySem.F.args_tuple_add_2
abbrev sI:=@PySem.F.entry_tuple_add
abbrev mV:=@Option.map_some
abbrev sH:=@PySem.F.slot_tuple_add
abbrev sG:=@Nat.lt_of_succ_lt_succ
abbrev px:=@List.flatten_cons
abbrev jI:=@Prod.mk.inj
abbrev sF:=@List.length_replicate
abbrev kW:=@Int.le_trans
abbrev kU:=@List.all_nil
abbrev kS:=@Nat.succ.inj
abbrev sE:=@List.filterMap_cons
abbrev ybz:=@List.mem_append
abbrev tE:=@PySem.W.plainGet_of
abbrev tD:=@PySem.W.callWith_K0
abbrev pG:=@Nat.min_le_left
abbrev pF:=@List.range_succ
abbrev tw:=@PySem.W.callWith_K
abbrev ybF:=@Int.natAbs_eq_zero
abbrev pE:=@Int.mul_le_mul
abbrev tq:=@List.take_sublist
abbrev tm:=@Option.some.injEq
abbrev tf:=@Option.getD_some
abbrev sZ:=@Nat.le_of_not_lt
abbrev sY:=@PySem.W.makes_of
abbrev sX:=@Nat.lt_succ_self
abbrev sW:=@List.isEmpty_map
abbrev sV:=@List.of_mem_zip
abbrev sU:=@List.foldl_cons
abbrev sT:=@Bool.eq_iff_iff
abbrev sS:=@Nat.not_lt_zero
abbrev sR:=@List.length_nil
abbrev sQ:=@List.forIn_cons
abbrev sP:=@List.nil_append
abbrev pD:=@Int.zero_mul
abbrev pC:=@Nat.log2_lt
namespace L2
open PySem PySem.Spec PyProof.Rows
noncomputable def gB (s:Stmt):Arguments:=match s with
 | .FunctionDef _ a _ _ _ _ _ _ _ _=>a
 | _=>{ posonlyargs:=[],args:=[],vararg:=none,kwonlyargs:=[],kw_defaults:=[],kwarg:=none,defaults:=[] }
noncomputable def dC (s:Stmt):List Stmt:=match s with
 | .FunctionDef _ _ b _ _ _ _ _ _ _=>b
 | _=>[]
noncomputable def aL (s:Stmt):Scope:=match s with
 | .FunctionDef _ _ _ _ _ _ sc _ _ _=>sc
 | _=>{ kind:=.function,names:=[],isGenerator:=false,isCoroutine:=false }
end L2
namespace Dw.K81
open PySem L2
open PySem.W (isFn makesIn plainGet hasDictIn plainOver nsIn fnOf codeIn keepIn findIn mg_of mg_none_of Frag)
def top (i:Nat):Stmt:=PySem.Challenge.pw_driftwood_k81_whole_no_wrong_nearest_tak.main.body.getD i (.Pass ⟨0,0,0,0⟩)
def cb:Stmt->List Stmt|.ClassDef _ _ _ b _ _ _ _ _ _ _=>b|_=>[]
def dX (i j:Nat):Stmt:=(cb (top i)).getD j (.Pass ⟨0,0,0,0⟩)
noncomputable def gm:List (Str×Nat×Nat×Nat×List Str):=[("Meets",57,427,82,["box"]),("Inside",58,467,84,["box"]),("Holds",59,507,86,["box"]),("Near",60,547,88,["box","far"]),("Marked",61,587,90,["marks"]),("Touched",62,627,92,["marks"]),("Crosses",63,667,94,["box","first","last"]),("Worthy",64,707,96,["least"]),("Both",65,747,98,["one","two"]),("Either",66,787,100,["one","two"]),("Unless",67,827,102,["one"])]
noncomputable def mT:Nat:=505
noncomputable def mA:Str:="driftwood.swaths"
noncomputable def mB:Str:="driftwood.things"
noncomputable def mC:Str:="driftwood.pages"
noncomputable def mD:Str:="driftwood.ask"
noncomputable def mE:Str:="driftwood.boxes"
noncomputable def mF:Str:="driftwood.examine"
noncomputable def mG:Str:="driftwood.meeting"
noncomputable def mH:Str:="driftwood.wants"
noncomputable def mI:Str:="driftwood.near"
noncomputable def mJ:Str:="law_driftwood_k81_whole_no_wrong_nearest_tak"
noncomputable def en (P:Params) (n:Str) (t:Tok) (v:Value):DictEntry:=⟨PyData.keyHash P n,.str n t,v⟩
def er (P:Params) (n:Str) (t:Tok) (a:Nat):DictEntry:=en P n t (.ref a)
noncomputable def dc (es:List DictEntry) (n:Nat):Obj:={ cls:=.type "dict",data:=.dict es.toArray n }
def fo (n q:Str) (s:Stmt) (m:Str) (t:Tok) (c:Nat):Obj:={ cls:=.type "function",data:=.func (fnOf n q (gB s) (dC s) (aL s) .none .none .none (.str m t) none (.ref c) .none) }
noncomputable def co (n q:Str) (t u x:Tok) (a b c d e r f s:Nat) (g h i:Value) (j k:Nat) (y:Tok):Obj:={ cls:=.type "code",data:=.fields #[.str n t,.str q u,.str "/claim/cut.py" x,.int a 0,.int b 0,.int c 0,.int d 0,.int e 0,.ref r,.bool true,.int f 0,.ref s,.none,g,h,i,.int j 0,.int k 0,.str "/claim/cut.py" y] }
def ca (n q:Str) (t a b r j:Nat):Obj:=co n q t (t+1) (t+2) a b 0 0 3 r 181 (r+1) (.ref (r+2)) (.ref (r+3)) (.ref (r+4)) j a (j+1)
def cn (n q:Str) (t a b r j:Nat):Obj:=co n q t (t+1) (t+2) a b 0 0 3 r 181 (r+1) .none .none (.ref (r+2)) j a (j+1)
def c0:Stmt:=top 0
def c1:Stmt:=top 1
def c2:Stmt:=top 2
def c3:Stmt:=top 3
def c4:Stmt:=top 4
def c5:Stmt:=top 5
def c6:Stmt:=top 6
def c7:Stmt:=top 7
def c8:Stmt:=top 8
def c9:Stmt:=top 9
def xM:Stmt:=top 10
def xK:Stmt:=top 11
def oH:Stmt:=top 12
def iU:Stmt:=top 13
def my:Stmt:=top 14
def xJ:Stmt:=top 15
def xI:Stmt:=top 16
def xH:Stmt:=top 17
def xG:Stmt:=top 18
def xF:Stmt:=top 19
def xE:Stmt:=top 20
def xD:Stmt:=top 21
def oG:Stmt:=top 22
def xC:Stmt:=top 23
def D8:Stmt:=top 24
def xB:Stmt:=top 25
def xA:Stmt:=top 26
def xy:Stmt:=top 27
def xv:Stmt:=top 28
def xu:Stmt:=top 29
def xt:Stmt:=top 30
def xr:Stmt:=top 31
def D7:Stmt:=top 32
def xq:Stmt:=top 33
def rW:Stmt:=top 34
def xp:Stmt:=top 35
def xo:Stmt:=top 36
def xn:Stmt:=top 37
def xm:Stmt:=top 38
def xl:Stmt:=top 39
def xk:Stmt:=top 40
def D6:Stmt:=top 41
def xj:Stmt:=top 42
def xi:Stmt:=top 43
def D5:Stmt:=top 44
def xh:Stmt:=top 45
def xg:Stmt:=top 46
def xf:Stmt:=top 47
def D4:Stmt:=top 48
def xc:Stmt:=top 49
def xb:Stmt:=top 50
def w9:Stmt:=top 51
def w8:Stmt:=top 52
def wZ:Stmt:=top 53
def wY:Stmt:=top 54
def wX:Stmt:=top 55
def wW:Stmt:=top 56
def wV:Stmt:=top 57
def wU:Stmt:=top 58
def oF:Stmt:=top 59
def wR:Stmt:=top 60
def wQ:Stmt:=top 61
def wN:Stmt:=top 62
def wM:Stmt:=top 63
def oE:Stmt:=top 64
def wL:Stmt:=top 65
def wK:Stmt:=top 66
def oC:Stmt:=top 67
def D3:Stmt:=top 68
def wJ:Stmt:=top 69
def wI:Stmt:=top 70
def wH:Stmt:=top 71
def wF:Stmt:=top 72
def wD:Stmt:=top 73
def wC:Stmt:=top 74
def wB:Stmt:=top 75
def D2:Stmt:=top 76
def wA:Stmt:=top 77
def wz:Stmt:=top 78
def wy:Stmt:=top 79
def wu:Stmt:=top 80
def wt:Stmt:=top 81
def wq:Stmt:=top 82
def wm:Stmt:=top 83
def wj:Stmt:=top 84
def wg:Stmt:=top 85
def we:Stmt:=top 86
def wc:Stmt:=top 87
def wb:Stmt:=top 88
def wa:Stmt:=top 89
def v9:Stmt:=top 90
def v8:Stmt:=top 91
def v7:Stmt:=top 92
def v5:Stmt:=top 93
def v3:Stmt:=top 94
def vZ:Stmt:=top 95
def vY:Stmt:=top 96
def vX:Stmt:=top 97
def vW:Stmt:=top 98
def vV:Stmt:=top 99
def tY:Stmt:=top 100
def tZ:Stmt:=top 101
def t4:Stmt:=top 102
def pw:Program:={ PySem.Challenge.pw_driftwood_k81_whole_no_wrong_nearest_tak with main:={ PySem.Challenge.pw_driftwood_k81_whole_no_wrong_nearest_tak.main with body:=c0::c1::c2::c3::c4::c5::c6::c7::c8::c9::xM::xK::oH::iU::my::xJ::xI::xH::xG::xF::xE::xD::oG::xC::D8::xB::xA::xy::xv::xu::xt::xr::D7::xq::rW::xp::xo::xn::xm::xl::xk::D6::xj::xi::D5::xh::xg::xf::D4::xc::xb::w9::w8::wZ::wY::wX::wW::wV::wU::oF::wR::wQ::wN::wM::oE::wL::wK::oC::D3::wJ::wI::wH::wF::wD::wC::wB::D2::wA::wz::wy::wu::wt::wq::wm::wj::wg::we::wc::wb::wa::v9::v8::v7::v5::v3::vZ::vY::vX::vW::vV::tY::tZ::t4::[] } }
def lw:PySem.W.OpenLaw:={ PySem.Challenge.rw_driftwood_k81_whole_no_wrong_nearest_tak with prog:=pw }
theorem lw_eq:PySem.Challenge.rw_driftwood_k81_whole_no_wrong_nearest_tak=lw:=by kernel_rfl
noncomputable def tu (l:List Value):Obj:={ cls:=.type "tuple",data:=.seq l.toArray }
noncomputable def vt:Nat->List Str->List Value|_,[]=>[]|t,s::l=>.str s t::vt (t+1) l
noncomputable def nf (l:List Value):Obj:={ cls:=.none,data:=.fields l.toArray }
noncomputable def kl (c:Int):List (Nat×Nat)->List Value|[]=>[]|(a,b)::l=>.int a 0::.int c 0::.ref b::kl c l
noncomputable def su (a:Nat):Obj:={ cls:=.type "super",data:=.fields #[.ref a,.ref a,.ref a] }
noncomputable def ic (a:Nat):Obj:={ cls:=.type "builtin_function_or_method",data:=.fields #[.builtin "object.__init_subclass__",.ref a] }
noncomputable def pr:Obj:={ cls:=.type "builtin_function_or_method",data:=.fields #[.builtin "type.__prepare__",.type "type"] }
noncomputable def fr (a b:Nat) (m:Str) (t:Tok):Obj:={ cls:=.type "frame",slots:=#[some (.ref a),some (.ref 3),some (.ref b),none,some (.str m t),none,some (.ref 0)] }
noncomputable def cc (n:Str) (t a r:Nat):Obj:={ cls:=.type "code",data:=.fields #[.str n t,.str n (t+1),.str "/claim/cut.py" (t+2),.int a 0,.int 0 0,.int 0 0,.int 0 0,.int 0 0,.ref r,.bool false,.int 181 0,.ref (r+1),.none,.none,.none,.none,.int (t+3:Nat) 0,.int a 0,.str "/claim/cut.py" (t+4)] }
noncomputable def ty (n:Str) (a b t:Nat):Obj:={ cls:=.type "type",data:=.cls { name:=n,bases:=[.ref 352],mro:=[.ref a,.ref 352,.type "object"],ns:=a - 1,qualname:=n },slots:=#[some (.ref b),none,some (.str n t),some (.str n (t+8)),some (.builtin "object.__new__"),some (.bool true)] }
def zh (n q:Str) (s:Stmt):Obj:={ cls:=.none,data:=.func { name:=n,qualname:=q,params:=gB s,body:=.stmts (dC s),scope:=aL s,globals:=0,closure:=[],defaults:=.none,kwdefaults:=.none } }
def dA (n q:Str) (s:Stmt) (m:Str) (u i t l k:Nat) (v:List Str):List Obj:=[tu [],nf [],tu (vt (t+3) v),tu [],zh n q s,ca n q t l k i (t+3+v.length),fo n q s m u (i+5)]
def dN (n q:Str) (s:Stmt) (m:Str) (u i t l k:Nat):List Obj:=[tu [],nf [],zh n q s,cn n q t l k i (t+3),fo n q s m u (i+3)]
def nE (P:Params):List DictEntry:=[en P "__doc__" 166 .none,en P "__package__" 167 .none,en P "__loader__" 168 (.builtin "__main__.__loader__#opaque"),en P "__spec__" 169 .none,er P "__annotations__" 170 6,er P "__builtins__" 171 4,en P "__file__" 173 (.str ("/claim/cut.py") 172),en P "__cached__" 174 .none,er P "_wall" 193 21,er P "side_at" 203 28,er P "side_joined" 211 35,er P "side_narrowed" 219 42,er P "still_swath" 225 47,er P "frame_at" 231 52,er P "frames_joined" 237 57,er P "frames_narrowed" 243 62,er P "thing_handle" 252 69,er P "thing_swath" 259 76,er P "thing_marks" 266 83,er P "thing_worth" 273 90,er P "thing_box" 281 97,er P "told_cover" 288 104,er P "told_heart" 295 111,er P "told_some" 302 118,er P "told_every" 309 125,er P "told_least" 316 132,er P "told_most" 323 139,er P "thing_told" 333 146,er P "told_poured" 341 153,er P "tolds_poured" 350 160,er P "is_leaf" 359 167,er P "page_told" 366 174,er P "page_parts" 373 181,er P "things_tolds" 379 186,er P "pages_tolds" 385 191,er P "make_leaf" 392 198,er P "make_fork" 399 205,er P "suiting_in" 407 210,er P "sides_meet" 417 217,er P "side_inside" 425 224,er P "side_gap" 433 231,er P "boxes_meet" 439 236,er P "box_inside" 445 241,er P "box_gap" 451 246,er P "pages_of_cut" 459 251,er P "is_shut" 468 258,er P "beats_of" 482 265,er P "beats_below" 491 272,er P "meeting" 504 279,er P "verdict_from" 514 286,er P "cover_at" 522 293,er P "heart_at" 530 300,er P "has_each" 538 307,er P "has_one" 546 314,er P "crosses_box" 556 321,er P "Want" 601 352,er P "Anything" 642 387,er P "Meets" 692 427,er P "Inside" 742 467,er P "Holds" 792 507,er P "Near" 846 547,er P "Marked" 896 587,er P "Touched" 946 627,er P "Crosses" 1002 667,er P "Worthy" 1052 707,er P "Both" 1105 747,er P "Either" 1158 787,er P "Unless" 1209 827,er P "want_or_anything" 1218 836,er P "cover_gap" 1227 843,er P "rows_of_leaf" 1233 848,er P "is_far" 1244 855,er P "near_word_stands" 1257 862,er P "rows_of_open_leaves" 1270 869,er P "near_stands" 1276 874,er P "_law_cell_at" 1286 881,er P "_law_draw" 1297 888,er P "_law_scale" 1304 895,er P "_law_side_by" 1316 902,er P "_law_thing_by" 1322 907,er P "_law_things_by" 1328 912,er P "_law_fork_of" 1336 919,er P "_law_shape_by" 1342 924,er P "_law_page_of" 1348 929,er P "_law_under" 1357 936,er P "_law_at" 1363 941,er P "_law_touch" 1372 948,er P "_law_lies_in" 1381 955,er P "_law_gap_of" 1392 962,er P "_law_box_by" 1404 969,er P "_law_atom_by" 1417 976,er P "_law_plain_by" 1429 983,er P "_law_atom_of" 1436 990,er P "_law_want_of" 1443 997,er P "_law_atom_suits" 1449 1002,er P "_law_suits" 1458 1009,er P "_law_rows_of" 1464 1014,er P "_law_word_by" 1475 1021,er P "_law_made_up" 1495 1028,er P "_law_spoilt" 1510 1035,er P "law" 1516 1040]
def nO (P:Params) (v:Value) (k:Nat):Obj:=dc (en P "__name__" 165 v::(nE P).take k) (k+1)
noncomputable def kE:List (Nat×Nat):=[(1,20),(5,27),(7,34),(9,41),(11,46),(13,51),(15,56),(17,61),(20,68),(22,75),(24,82),(26,89),(28,96),(30,103),(32,110),(34,117),(36,124),(38,131),(40,138),(42,145),(47,152),(53,159),(59,166),(61,173),(63,180),(65,185),(67,190),(69,197),(71,204),(74,209),(77,216),(79,223),(81,230),(83,235),(85,240),(87,245),(91,250),(103,257),(106,264),(118,271),(122,278),(129,285),(135,292),(137,299),(139,306),(141,313),(143,320),(145,327),(155,362),(165,395),(178,435),(191,475),(204,515),(220,555),(233,595),(246,635),(263,675),(276,715),(291,755),(306,795),(321,835),(323,842),(325,847),(328,854),(332,861),(338,868),(344,873),(353,880),(357,887),(361,894),(363,901),(368,906),(373,911),(380,918),(384,923),(400,928),(404,935),(411,940),(413,947),(418,954),(423,961),(429,968),(435,975),(451,982),(464,989),(482,996),(490,1001),(509,1008),(517,1013),(520,1020),(527,1027),(542,1034),(566,1039)]
noncomputable def wO (k:Nat):Obj:={ cls:=.type "type",data:=.cls { name:="Want",bases:=[.type "object"],mro:=[.ref 352,.type "object"],ns:=351,qualname:="Want",subclasses:=(List.map Value.ref [387,427,467,507,547,587,627,667,707,747,787,827]).take k },slots:=#[none,none,some (.str "Want" 557),some (.str "Want" 565),some (.builtin "object.__new__"),some (.bool true)] }
def kc (P:Params) (n:Str) (j A T L s v w:Nat) (fs vs:List Str) (i c:Nat):List Obj:=
 (λ(z:List DictEntry)=>[tu [.ref 352],pr,dc (en P "__module__" T (.str ("driftwood.wants") 505)::en P "__qualname__" (T+2) (.str n (T+1))::en P "__firstlineno__" (T+4) (.int L (T+3))::z) 8,tu [],nf (kl 4 [(L+2,A - 25),(s,A - 18),(v,A - 11),(w,A - 4)]),cc n (T - 5) L (A - 34),fr (A - 32) (A - 35) "driftwood.wants" 505] ++
 dA "__init__" (n++".__init__") (dX j 0) mH 505 (A - 30) (T+5) (L+2) (fs.length+1) ("self"::fs)++dA "suits" (n++".suits") (dX j 1) mH 505 (A - 23) (i+1) s 3 ["self","thing","beat"]++dA "verdict" (n++".verdict") (dX j 2) mH 505 (A - 16) (i+10) v 3 ("self"::"told"::"beat"::vs)++dA "written" (n++".written") (dX j 3) mH 505 (A - 9) (c+1) w 1 ["self"] ++
 [tu (vt (c+8) fs),dc (en P "__module__" T (.str ("driftwood.wants") 505)::en P "__firstlineno__" (T+4) (.int L (T+3))::z++[en P "__doc__" (c+9+fs.length) .none]) 2,ty n A (A - 37) (T - 7),su A,ic A]) [er P "__init__" i (A - 24),er P "suits" (i+9) (A - 17),er P "verdict" c (A - 10),er P "written" (c+7) (A - 3),er P "__static_attributes__" (c+8+fs.length) (A - 2)]
def kC (P:Params) (n:Str) (j A T L s v w:Nat) (fs vs:List Str):List Obj:=kc P n j A T L s v w fs vs (T+11+fs.length) (T+29+fs.length+vs.length)
noncomputable def rQ:Stmt->Str|.FunctionDef n _ _ _ _ _ _ _ _ _=>n|_=>Str.empty
noncomputable def DU:Stmt->Nat|.FunctionDef _ _ _ _ _ _ _ _ _ p=>p.line|_=>0
def ym (s:Stmt):List Str:=((aL s).names.filter λp=>p.2 == .local).map (·.1)
def gF (m:Str) (u:Nat):Nat->Nat->List Int->List Obj
 | _,_,[]=>[]
 | i,t,.ofNat p::l=>dA (rQ (top p)) (rQ (top p)) (top p) m u i t (DU (top p)) (gB (top p)).args.length (ym (top p))++gF m u (i+7) (t+6+(ym (top p)).length) l
 | i,t,.negSucc p::l=>dN (rQ (top (p+1))) (rQ (top (p+1))) (top (p+1)) m u i t (DU (top (p+1))) (gB (top (p+1))).args.length++gF m u (i+5) (t+6) l
def b0 (P:Params) (w:Nat):List Obj:=gF ("__main__") 164 15 187 [0] ++
 gF mA 194 22 196 [2,3,4,-5,-6,-7,-8] ++
 gF mB 244 63 246 [10,11,12,13,14]
def b1 (P:Params) (w:Nat):List Obj:=gF mB 244 98 282 [15,16,17,18,19,20,21,22,23] ++
 gF mC 351 161 353 [25,26,27,-28]
def b2 (P:Params) (w:Nat):List Obj:=gF mC 351 187 380 [-29,30,31] ++
 gF mD 400 206 402 [-33] ++
 gF mE 408 211 410 [35,36,37,-38,-39,-40] ++
 gF mF 452 247 454 [-42,43] ++
 gF mG 469 259 471 [45,46,47] ++
 gF mH 505 280 507 [49,50,51,52,53,54]
def b3 (P:Params) (w:Nat):List Obj:=[tu [],pr,dc [en P "__module__" 564 (.str ("driftwood.wants") 505),en P "__qualname__" 566 (.str ("Want") 565),en P "__firstlineno__" 568 (.int 145 567),er P "suits" 577 335,er P "verdict" 586 342,er P "written" 593 349,er P "__static_attributes__" 594 350] 7,tu [],nf (kl 4 [(147,334),(150,341),(153,348)]),cc "Want" 559 145 325,fr 327 324 "driftwood.wants" 505] ++
 dA "suits" "Want.suits" (dX 55 0) mH 505 329 569 147 3 ["self","thing","beat"] ++
 dA "verdict" "Want.verdict" (dX 55 1) mH 505 336 578 150 3 ["self","told","beat"] ++
 dA "written" "Want.written" (dX 55 2) mH 505 343 587 153 1 ["self"] ++
 [tu [],dc [en P "__module__" 564 (.str ("driftwood.wants") 505),en P "__firstlineno__" 568 (.int 145 567),er P "suits" 577 335,er P "verdict" 586 342,er P "written" 593 349,er P "__static_attributes__" 594 350,er P "__dict__" 596 353,er P "__weakref__" 598 354,en P "__doc__" 599 .none] 4,wO w,{ cls:=.type "getset_descriptor",data:=.fields #[.str ("__dict__") 595,.ref 352,.builtin "function.__dict__",.builtin "function.__dict__#set"] },{ cls:=.type "getset_descriptor",data:=.fields #[.str ("__weakref__") 597,.ref 352,.builtin "ExceptionGroup.__weakref__",.none] },su 352,ic 352,tu [.ref 352],pr,dc [en P "__module__" 609 (.str ("driftwood.wants") 505),en P "__qualname__" 611 (.str ("Anything") 610),en P "__firstlineno__" 613 (.int 155 612),er P "suits" 622 370,er P "verdict" 631 377,er P "written" 638 384,er P "__static_attributes__" 639 385] 7,tu [],nf (kl 4 [(157,369),(160,376),(163,383)]),cc "Anything" 604 155 360,fr 362 359 "driftwood.wants" 505] ++
 dA "suits" "Anything.suits" (dX 56 0) mH 505 364 614 157 3 ["self","thing","beat"] ++
 dA "verdict" "Anything.verdict" (dX 56 1) mH 505 371 623 160 3 ["self","told","beat"] ++
 dA "written" "Anything.written" (dX 56 2) mH 505 378 632 163 1 ["self"] ++
 [tu [],dc [en P "__module__" 609 (.str ("driftwood.wants") 505),en P "__firstlineno__" 613 (.int 155 612),er P "suits" 622 370,er P "verdict" 631 377,er P "written" 638 384,er P "__static_attributes__" 639 385,en P "__doc__" 640 .none] 2,ty "Anything" 387 357 602,su 387,ic 387]
def b4 (P:Params) (w:Nat):List Obj:=kC P "Meets" 57 427 650 165 170 173 176 ["box"] [] ++
 kC P "Inside" 58 467 700 178 183 186 189 ["box"] []
def b5 (P:Params) (w:Nat):List Obj:=kC P "Holds" 59 507 750 191 196 199 202 ["box"] [] ++
 kC P "Near" 60 547 800 204 210 213 218 ["box","far"] ["farthest","nearest"]
def b6 (P:Params) (w:Nat):List Obj:=kC P "Marked" 61 587 854 220 225 228 231 ["marks"] [] ++
 kC P "Touched" 62 627 904 233 238 241 244 ["marks"] []
def b7 (P:Params) (w:Nat):List Obj:=kC P "Crosses" 63 667 954 246 253 256 261 ["box","first","last"] ["heart_does","cover_does"] ++
 kC P "Worthy" 64 707 1010 263 268 271 274 ["least"] []
def b8 (P:Params) (w:Nat):List Obj:=kC P "Both" 65 747 1060 276 282 285 289 ["one","two"] ["judged"] ++
 kC P "Either" 66 787 1113 291 297 300 304 ["one","two"] ["judged"]
def b9 (P:Params) (w:Nat):List Obj:=kC P "Unless" 67 827 1166 306 311 314 318 ["one"] ["judged"] ++
 gF mI 1210 830 1212 [69,70,-71,72,73,74,-75] ++
 gF mJ 1277 875 1279 [77,78,79,80,-81,-82]
def b10 (P:Params) (w:Nat):List Obj:=gF mJ 1277 913 1329 [83,-84,-85,86,-87,88,89,90,91,92,93,94,95,-96,97,-98,99,100,101,-102]
def b (P:Params) (v:Value) (k c w j:Nat):List Obj:=[W.boot_o_0 P,W.boot_o_1 P,W.boot_o_2 P,nO P v k,W.boot_o_4 P,W.boot_o_5 P,W.boot_o_6 P,W.boot_o_7 P,W.boot_o_8 P,W.boot_o_9 P,W.boot_o_10 P,tu [],nf (kl 0 (kE.take c)),cc "<module>" 182 1 11,fr 13 3 "__main__" 164]++(match j with|0=>[]|1=>b0 P w|2=>b0 P w++(b1 P w)|3=>b0 P w++(b1 P w++(b2 P w))|4=>b0 P w++(b1 P w++(b2 P w++(b3 P w)))|5=>b0 P w++(b1 P w++(b2 P w++(b3 P w++(b4 P w))))|6=>b0 P w++(b1 P w++(b2 P w++(b3 P w++(b4 P w++(b5 P w)))))|7=>b0 P w++(b1 P w++(b2 P w++(b3 P w++(b4 P w++(b5 P w++(b6 P w))))))|8=>b0 P w++(b1 P w++(b2 P w++(b3 P w++(b4 P w++(b5 P w++(b6 P w++(b7 P w)))))))|9=>b0 P w++(b1 P w++(b2 P w++(b3 P w++(b4 P w++(b5 P w++(b6 P w++(b7 P w++(b8 P w))))))))|10=>b0 P w++(b1 P w++(b2 P w++(b3 P w++(b4 P w++(b5 P w++(b6 P w++(b7 P w++(b8 P w++(b9 P w)))))))))|_=>b0 P w++(b1 P w++(b2 P w++(b3 P w++(b4 P w++(b5 P w++(b6 P w++(b7 P w++(b8 P w++(b9 P w++(b10 P w)))))))))))
noncomputable def sp:List Obj->List Obj×List Obj|[]=>([],[])|a::l=>(a::(sp l).2,(sp l).1)
def bt:Nat->List Obj->W.BT|0,_=>.nil|_+1,[]=>.nil|n+1,a::l=>.node a (bt n (sp l).1) (bt n (sp l).2)
noncomputable def st (t:W.BT) (n k:Nat) (os:OsState):W.SharedT:=⟨t,n,{},⟨[]⟩,{},k,os⟩
def i0 (P:Params):List Obj:=[W.boot_o_0 P,W.boot_o_1 P,W.boot_o_2 P,W.boot_o_3 P,W.boot_o_4 P,W.boot_o_5 P,W.boot_o_6 P,W.boot_o_7 P,W.boot_o_8 P,W.boot_o_9 P,W.boot_o_10 P,tu [],nf [],cc "<module>" 182 1 11,fr 13 3 "__main__" 164]
def l1 (P:Params):List Obj:=b P (.str "driftwood.things" 244) 21 13 0 1
def l2 (P:Params):List Obj:=b P (.str "driftwood.pages" 351) 34 26 0 2
def l3 (P:Params):List Obj:=b P (.str "driftwood.wants" 505) 55 47 0 3
def l4 (P:Params):List Obj:=b P (.str "driftwood.wants" 505) 57 49 1 4
def l5 (P:Params):List Obj:=b P (.str "driftwood.wants" 505) 59 51 3 5
def l6 (P:Params):List Obj:=b P (.str "driftwood.wants" 505) 61 53 5 6
def l7 (P:Params):List Obj:=b P (.str "driftwood.wants" 505) 63 55 7 7
def l8 (P:Params):List Obj:=b P (.str "driftwood.wants" 505) 65 57 9 8
def l9 (P:Params):List Obj:=b P (.str "driftwood.wants" 505) 67 59 11 9
def DV (P:Params):List Obj:=b P (.str "law_driftwood_k81_whole_no_wrong_nearest_tak" 1277) 81 73 12 10
def kD (P:Params):List Obj:=b P (.str "law_driftwood_k81_whole_no_wrong_nearest_tak" 1277) 101 93 12 11
noncomputable abbrev pp:Program:=lw.row.toRowW.prog
def ev:Env:={ scope:=pp.main.scope,locals:=mainNs,globals:=mainNs,cells:=[],code:=.ref 13,frame:=some 14 }
abbrev cE:Code:=.body (W.behindTheImports pp) ev
abbrev po (a b c d:Nat):Pos:=⟨a,b,c,d⟩
abbrev B0:List Frame:=[W.topFrame (po 0 0 0 0)]
noncomputable def s1:List Stmt:=c0::c1::c2::c3::c4::c5::c6::c7::c8::c9::xM::xK::oH::iU::my::[]
noncomputable def s2:List Stmt:=xJ::xI::xH::xG::xF::xE::xD::oG::xC::D8::xB::xA::xy::xv::[]
noncomputable def s3:List Stmt:=xu::xt::xr::D7::xq::rW::xp::xo::xn::xm::xl::xk::D6::xj::xi::D5::xh::xg::xf::D4::xc::xb::w9::w8::wZ::wY::[]
noncomputable def s4:List Stmt:=wX::wW::[]
noncomputable def s5:List Stmt:=wV::wU::[]
noncomputable def s6:List Stmt:=oF::wR::[]
noncomputable def s7:List Stmt:=wQ::wN::[]
noncomputable def s8:List Stmt:=wM::oE::[]
noncomputable def s9:List Stmt:=wL::wK::[]
noncomputable def yA:List Stmt:=oC::D3::wJ::wI::wH::wF::wD::wC::wB::D2::wA::wz::wy::wu::wt::wq::[]
noncomputable def yz:List Stmt:=wm::wj::wg::we::wc::wb::wa::v9::v8::v7::v5::v3::vZ::vY::vX::vW::vV::tY::tZ::t4::[]
noncomputable abbrev sh (h:Heap) (k:Nat) (os:OsState):Shared:=⟨h,⟨[]⟩,{},k,os⟩
def h0 (P:Params):Heap:=⟨(i0 P).toArray,{}⟩
def hZ (P:Params):Heap:=⟨(kD P).toArray,{}⟩
theorem q0 (w:World):(λos=>W.topGo treeTable pp w 11 (some (.ref 6)) 12 ⟨W.boot_heap w.params,⟨[]⟩,W.boot_drawn,W.boot_toks,os⟩ (W.topStub pp))=λos=>some (sh (h0 w.params) 187 os,⟨denote treeTable cE,cE,po 0 0 0 0,B0⟩):=by kernel_rfl
theorem qb (w:World):(λos=>W.segRun treeTable pp w 11 (some (.ref 6)) 1 1 (sh (h0 w.params) 187 os) (W.blockOf (W.behindTheImports pp) ev cE (po 0 0 0 0) B0))=λos=>some (.next,(st (bt 12 (i0 w.params)) 15 187 os).abs,cE,po 0 0 0 0):=by kernel_rfl
theorem q1 (w:World):(λos=>W.segRunT treeTable pp w 11 (some (.ref 6)) 1 408 (st (bt 12 (i0 w.params)) 15 187 os) (W.piecesOf s1 ev cE (po 0 0 0 0) B0))=λos=>some (.next,st (bt 12 (l1 w.params)) 98 282 os,cE,po 28 0 29 45):=by kernel_rfl
theorem q2 (w:World):(λos=>W.segRunT treeTable pp w 11 (some (.ref 6)) 1 410 (st (bt 12 (l1 w.params)) 98 282 os) (W.piecesOf s2 ev cE (po 28 0 29 45) B0))=λos=>some (.next,st (bt 12 (l2 w.params)) 187 380 os,cE,po 65 0 66 57):=by kernel_rfl
theorem q3 (w:World):(λos=>W.segRunT treeTable pp w 11 (some (.ref 6)) 1 684 (st (bt 12 (l2 w.params)) 187 380 os) (W.piecesOf s3 ev cE (po 65 0 66 57) B0))=λos=>some (.next,st (bt 12 (l3 w.params)) 322 557 os,cE,po 143 0 144 68):=by kernel_rfl
theorem q4 (w:World):(λos=>W.segRunT treeTable pp w 11 (some (.ref 6)) 1 617 (st (bt 12 (l3 w.params)) 322 557 os) (W.piecesOf s4 ev cE (po 143 0 144 68) B0))=λos=>some (.next,st (bt 12 (l4 w.params)) 390 643 os,cE,po 155 0 164 16):=by kernel_rfl
theorem q5 (w:World):(λos=>W.segRunT treeTable pp w 11 (some (.ref 6)) 1 706 (st (bt 12 (l4 w.params)) 390 643 os) (W.piecesOf s5 ev cE (po 155 0 164 16) B0))=λos=>some (.next,st (bt 12 (l5 w.params)) 470 743 os,cE,po 178 0 190 16):=by kernel_rfl
theorem q6 (w:World):(λos=>W.segRunT treeTable pp w 11 (some (.ref 6)) 1 710 (st (bt 12 (l5 w.params)) 470 743 os) (W.piecesOf s6 ev cE (po 178 0 190 16) B0))=λos=>some (.next,st (bt 12 (l6 w.params)) 550 847 os,cE,po 204 0 219 16):=by kernel_rfl
theorem q7 (w:World):(λos=>W.segRunT treeTable pp w 11 (some (.ref 6)) 1 706 (st (bt 12 (l6 w.params)) 550 847 os) (W.piecesOf s7 ev cE (po 204 0 219 16) B0))=λos=>some (.next,st (bt 12 (l7 w.params)) 630 947 os,cE,po 233 0 245 16):=by kernel_rfl
theorem q8 (w:World):(λos=>W.segRunT treeTable pp w 11 (some (.ref 6)) 1 712 (st (bt 12 (l7 w.params)) 630 947 os) (W.piecesOf s8 ev cE (po 233 0 245 16) B0))=λos=>some (.next,st (bt 12 (l8 w.params)) 710 1053 os,cE,po 263 0 275 16):=by kernel_rfl
theorem q9 (w:World):(λos=>W.segRunT treeTable pp w 11 (some (.ref 6)) 1 712 (st (bt 12 (l8 w.params)) 710 1053 os) (W.piecesOf s9 ev cE (po 263 0 275 16) B0))=λos=>some (.next,st (bt 12 (l9 w.params)) 790 1159 os,cE,po 291 0 305 17):=by kernel_rfl
theorem kA (w:World):(λos=>W.segRunT treeTable pp w 11 (some (.ref 6)) 1 776 (st (bt 12 (l9 w.params)) 790 1159 os) (W.piecesOf yA ev cE (po 291 0 305 17) B0))=λos=>some (.next,st (bt 12 (DV w.params)) 913 1329 os,cE,po 373 0 379 17):=by kernel_rfl
theorem ow (w:World):(λos=>W.segRunT treeTable pp w 11 (some (.ref 6)) 1 638 (st (bt 12 (DV w.params)) 913 1329 os) (W.piecesOf yz ev cE (po 373 0 379 17) B0))=λos=>some (.next,st (bt 12 (kD w.params)) 1041 1517 os,cE,po 566 0 591 15):=by kernel_rfl
theorem qf (w:World):(λos=>W.topRun treeTable pp w 11 (some (.ref 6)) 2 (st (bt 12 (kD w.params)) 1041 1517 os).abs ⟨W.doneF .next,cE,po 566 0 591 15,B0⟩)=λos=>some (sh (hZ w.params) 1517 os):=by kernel_rfl
theorem hs:W.behindTheImports pp=s1++(s2++(s3++(s4++(s5++(s6++(s7++(s8++(s9++(yA++(yz++[])))))))))):=by kernel_rfl
theorem run (w:World) (os:OsState):W.topRun treeTable pp w 11 (some (.ref 6)) (12+(1+(408+(410+(684+(617+(706+(710+(706+(712+(712+(776+(638+2))))))))))))) ⟨W.boot_heap w.params,⟨[]⟩,W.boot_drawn,W.boot_toks,os⟩ (W.topStub pp)=some (sh (hZ w.params) 1517 os):=
 W.go_top (congrFun (q0 w) os) (W.piece_block (congrFun (qb w) os) (Eq.subst (motive:=λb=>W.topRun treeTable pp w 11 (some (.ref 6)) _ _ (W.restOf b ev cE (po 0 0 0 0) B0)=_) hs.symm (W.piece_app (W.segRun_of (congrFun (q1 w) os)) (W.piece_app (W.segRun_of (congrFun (q2 w) os)) (W.piece_app (W.segRun_of (congrFun (q3 w) os)) (W.piece_app (W.segRun_of (congrFun (q4 w) os)) (W.piece_app (W.segRun_of (congrFun (q5 w) os)) (W.piece_app (W.segRun_of (congrFun (q6 w) os)) (W.piece_app (W.segRun_of (congrFun (q7 w) os)) (W.piece_app (W.segRun_of (congrFun (q8 w) os)) (W.piece_app (W.segRun_of (congrFun (q9 w) os)) (W.piece_app (W.segRun_of (congrFun (kA w) os)) (W.piece_app (W.segRun_of (congrFun (ow w) os)) (W.piece_nil (congrFun (qf w) os)))))))))))))))
noncomputable def ad:List Nat:=3::27::28::34::35::41::42::46::47::51::52::56::57::61::62::68::69::75::76::82::83::89::90::96::97::103::104::110::111::117::118::124::125::131::132::138::139::145::146::152::153::159::160::166::167::173::174::180::181::185::186::190::191::197::198::204::205::209::210::216::217::223::224::230::231::235::236::240::241::245::246::250::251::257::258::264::265::271::272::278::279::285::286::292::293::299::300::306::307::313::314::320::321::351::352::353::354::369::370::376::377::386::387::402::403::409::410::416::417::426::427::442::443::449::450::456::457::466::467::482::483::489::490::496::497::506::507::522::523::529::530::536::537::546::547::562::563::569::570::576::577::586::587::602::603::609::610::616::617::626::627::642::643::649::650::656::657::666::667::682::683::689::690::696::697::706::707::722::723::729::730::736::737::746::747::762::763::769::770::776::777::786::787::802::803::809::810::816::817::826::827::835::836::842::843::847::848::854::855::861::862::868::869::873::874::880::881::887::888::894::895::901::902::906::907::911::912::918::919::923::924::928::929::935::936::940::941::947::948::954::955::961::962::968::969::975::976::982::983::989::990::996::997::1001::1002::1008::1009::1013::1014::1020::1021::1027::1028::1034::1035::1039::1040::[]
def heap (P:Params):Frag:=ad.map λa=>(a,(kD P).getD a default)
end Dw.K81
section
open PySem PySem.W PyProof.Rows
namespace Dw.K81
def hk:Hook:=kHook heap ad (λ_=>by kernel_rfl)
noncomputable def q:Program:={ lw.prog with main:={ lw.prog.main with body:=c0::c2::c3::c4::c5::c6::c7::c8::xM::xK::oH::iU::my::xJ::xI::xH::xG::xF::xE::xD::oG::xC::xB::xA::xy::xv::xu::xt::xr::xq::xp::xo::xn::xm::xl::xk::xj::xi::xh::xg::xf::xc::xb::w9::w8::wZ::wY::wX::wW::wV::wU::oF::wR::wQ::wN::wM::oE::wL::wK::oC::wJ::wI::wH::wF::wD::wC::wB::wA::wz::wy::wu::wt::wq::wm::wj::wg::we::wc::wb::wa::v9::v8::v7::v5::v3::vZ::vY::vX::vW::vV::tY::tZ::t4::[] } }
noncomputable def sj (o:Obj):Bool:=match o.data with|.freed=>false|_=>true
theorem qQQ {l:List Obj}{ad:List Nat}(h:ad.all (·<l.length)=true) (g:l.all sj=true):ad.map (Heap.get? ⟨l.toArray,{}⟩)=(ad.map λa=>(a,l.getD a default)).map λp=>some p.2:=by
 rw [List.map_map]
 refine pA λa ha=>?_
 have e:=Qp (yaM.mp h a ha)
 have v:=yaM.mp g l[a] (gR e)
 show Heap.get? ⟨l.toArray,{}⟩ a=some (l.getD a default)
 unfold Heap.get?
 simp only [List.getElem?_toArray,List.getD,cV e,tf]
 split
 ·rename_i z
  injection z with z
  rw [z] at v
  cases v
 ·rfl
theorem qRr {K:Params->Frag}{as:List Addr}{e:∀P,as=(K P).map (·.1)}{w:World}{s:Shared}{l:List Obj}(hK:K w.params=as.map λa=>(a,l.getD a default)) (hs:s.heap=⟨l.toArray,{}⟩) (h:as.all (·<l.length)=true) (g:l.all sj=true):(kHook K as e).obs s=(kHook K as e).val w:=by
 show as.map s.heap.get?=(K w.params).map λp=>some p.2
 rw [hK,hs]
 exact qQQ h g
theorem qQ6 {α β γ:Type}{f:OsState->α}{g:OsState->β}{h:OsState->γ}{a:α}{b:β}{c:γ}(h1:f=λ_=>a) (h2:g=λ_=>b) (h3:h=λ_=>c):(λos=>(f os,g os,h os))=λ_=>(a,b,c):=by
 subst h1 h2 h3
 rfl
theorem ya (w:World):(λos:OsState=>(staticsOk (importedModules lw.row.toRowW.prog.main.body) (boot_heap w.params) (hZ w.params)&&namesBound lw.row.toRowW.prog (hZ w.params)&&gensDone ⟨hZ w.params,⟨[]⟩,{},1517,os⟩&&laidKept (boot_heap w.params) (hZ w.params)))=λ_=>true:=by kernel_rfl
abbrev zS (w:World) (os:OsState):Shared:=⟨hZ w.params,⟨[]⟩,{},1517,os⟩
theorem qS2 {q:Program}{loose mods:List Str}{Xt:Shared->Bool}{s:Shared}(h1:seen ((recsOf q).map (·.name)) (ownsOf q) [] { s with gens:=#[] }=expectedOf q) (h2:s.heap.bltView=bltViewBooted)
  (h3:(s.heap.keysOk (looseW q loose) ((recsOf q).map (·.name)) ((litsOf q).map (·.1)) ((clssOf q (looseW q loose)).map (·.name))&&s.heap.accountedOkI mods&&s.heap.isNs mainGlobals&&s.heap.isNs builtinsNs&&tablesOk q s.heap&&Xt s&&(if true then s.gens.size == 0 else !leftWithCleanup s.gens))=true)
  (h4:tabsOk q s=true) (h5:pinSeenD q (drecsOf q) s=pinGoodD (drecsOf q)) (h6:plainSeenE q (looseW q loose) s=plainGoodE q (looseW q loose)) (h7:plainSeenD q loose s=plainGoodD q loose) (h8:wideSeen q s=wideGood q) (h9:clsSeenW q loose s=clsGoodW q loose):openSeen q loose mods Xt true s=openGood q loose:=by
 unfold openSeen openGood
 rw [h1,h2,h3,h4,h5,h6,h7,h8,h9]
theorem y1 (w:World) (os:OsState):seen ((recsOf q).map (·.name)) (ownsOf q) [] { (zS w os) with gens:=#[] }=expectedOf q:=by kernel_rfl
theorem y2 (w:World) (os:OsState):(zS w os).heap.bltView=bltViewBooted:=by kernel_rfl
theorem y3 (w:World) (os:OsState):((zS w os).heap.keysOk (looseW q []) ((recsOf q).map (·.name)) ((litsOf q).map (·.1)) ((clssOf q (looseW q [])).map (·.name))&&(zS w os).heap.accountedOkI (importedModules lw.row.toRowW.prog.main.body)&&(zS w os).heap.isNs mainGlobals&&(zS w os).heap.isNs builtinsNs&&tablesOk q (zS w os).heap&&(xlAt q [] (zS w os)&&recOk (RowW.records lw.row.toRowW) (zS w os))&&(if true then (zS w os).gens.size == 0 else !leftWithCleanup (zS w os).gens))=true:=by kernel_rfl
theorem y4 (w:World) (os:OsState):tabsOk q (zS w os)=true:=by kernel_rfl
theorem y5 (w:World) (os:OsState):pinSeenD q (drecsOf q) (zS w os)=pinGoodD (drecsOf q):=by kernel_rfl
theorem y6 (w:World) (os:OsState):plainSeenE q (looseW q []) (zS w os)=plainGoodE q (looseW q []):=by kernel_rfl
theorem y7 (w:World) (os:OsState):plainSeenD q [] (zS w os)=plainGoodD q []:=by kernel_rfl
theorem y8 (w:World) (os:OsState):wideSeen q (zS w os)=wideGood q:=by kernel_rfl
theorem y9 (w:World) (os:OsState):clsSeenW q [] (zS w os)=clsGoodW q []:=by kernel_rfl
theorem yb (w:World):(λos:OsState=>openSeen q [] (importedModules lw.row.toRowW.prog.main.body) (λs=>xlAt q [] s&&recOk (RowW.records lw.row.toRowW) s) true ⟨hZ w.params,⟨[]⟩,{},1517,os⟩)=λ_=>openGood q []:=funext λos=>qS2 (s:=zS w os) (y1 w os) (y2 w os) (y3 w os) (y4 w os) (y5 w os) (y6 w os) (y7 w os) (y8 w os) (y9 w os)
theorem yc (w:World):ad.all (·<(kD w.params).length)=true:=by kernel_rfl
theorem yd (w:World):(kD w.params).all sj=true:=by kernel_rfl
theorem yo (w:World) (os:OsState):Hook.obs hk ⟨hZ w.params,⟨[]⟩,{},1517,os⟩=Hook.val hk w:=qRr (K:=heap) (as:=ad) (l:=kD w.params) rfl rfl (yc w) (yd w)
theorem hl:LeftO lw.row.toRowW.prog q [] (λs=>xlAt q [] s&&recOk (RowW.records lw.row.toRowW) s) (Hook.obs hk) (Hook.val hk) 8000:=
 LeftO.of_pieces (H₀:=boot_heap) (H₁:=hZ) (gs₀:=⟨[]⟩) (gs₁:=⟨[]⟩) (d₀:=boot_drawn) (d₁:={}) (k₀:=boot_toks) (k₁:=1517) (m₀:=11) (ann:=some (.ref 6)) (boot_open (by kernel_rfl) rfl λs=>rfl) (λw=>by kernel_rfl) run (by kernel_rfl) λw=>qQ6 (ya w) (yb w) (funext λos=>yo w os)
theorem sN:namesResolve lw.row.toRowW.prog=true:=by kernel_rfl
theorem sM:namesMeet lw.row.toRowW.prog lw.row.toRowW.prog.main.body (λ_ n=>attrL n)=true:=by kernel_rfl
theorem sA:looksOpen lw.row.toRowW.prog=true:=by
 unfold looksOpen
 rw [sN,sM]
 kernel_rfl
theorem sB:lw.row.wellSaid=true:=by
 unfold OpenRow.wellSaid OpenRow.partSaid
 rw [sA]
 kernel_rfl
theorem said:lw.wellSaid=true:=by
 unfold OpenLaw.wellSaid
 rw [sB]
 kernel_rfl
end Dw.K81
end
namespace Dw
open PySem PySem.W PyProof.Rows
noncomputable def aM {α:Type}(c:Nat->Nat->Bool):KasT α->α
 | .ret a=>a
 | .ask i j k=>aM c (k (c i j))
theorem gG {α β:Type}(c:Nat->Nat->Bool) (f:α->KasT β):∀t:KasT α,aM c (t.bind f)=aM c (f (aM c t))
 | .ret a=>rfl
 | .ask i j k=>gG c f (k (c i j))
theorem jy {α:Type}(c:Nat->Nat->Bool) (i j:Nat) (k:Bool->KasT α):aM c (.ask i j k)=aM c (k (c i j)):=rfl
theorem qKE {α:Type}(c:Nat->Nat->Bool) (a:α):aM c (.ret a)=a:=rfl
theorem jx (p:Array Nat) (i j:Nat):(kas_rev p i j).Perm p:=mirror_perm _ _ _ _
theorem oi (c:Nat->Nat->Bool):∀(f:Nat) (p:Array Nat) (n q:Nat),(aM c (kas_desc f p n q)).1.Perm p
 | 0,p,n,q=>.refl _
 | f+1,p,n,q=>by
  rw [kas_desc,jy]
  split
  ·split
   ·exact (oi c f _ _ _).trans (jx _ _ _)
   ·exact oi c f _ _ _
  ·rw [jy]
   split
   ·exact .refl _
   ·exact oi c f _ _ _
theorem De (c:Nat->Nat->Bool) (n m:Nat) (p:Array Nat):(aM c (kas_tail3 n m p)).2.Perm p:=by
 rw [kas_tail3,gG]
 exact jx _ _ _
theorem C0 (c:Nat->Nat->Bool) (n m:Nat) (p:Array Nat):(aM c (kas_descPart n m p)).2.Perm p:=by
 rw [kas_descPart,gG]
 have h:=oi c (m - (n+1)) p (n+1) 0
 split
 ·exact (De c _ _ _).trans ((jx _ _ _).trans h)
 ·exact (De c _ _ _).trans h
theorem Dq (c:Nat->Nat->Bool) (m:Nat) (p:Array Nat):(aM c (kas_count m p)).2.Perm p:=by
 rw [kas_count,gG]
 split
 ·exact .refl _
 ·split
  ·rw [jy]
   split
   ·exact .refl _
   ·exact (C0 c _ _ _).trans (jx _ _ _)
  ·exact C0 c _ _ _
theorem Cu (c:Nat->Nat->Bool):∀(f:Nat) (p:Array Nat) (k:Nat),(aM c (kas_bin f p k)).Perm p
 | 0,p,k=>.refl _
 | f+1,p,k=>by
  rw [kas_bin,gG]
  exact (Cu c f _ _).trans (bubble_perm _ _ _)
theorem Dc (c:Nat->Nat->Bool) (n:Nat):(aM c (kas_sort n)).toList.Perm (List.range n):=by
 rw [kas_sort,gG]
 have h:=Dq c n (List.range n).toArray
 split
 ·exact ((Cu c _ _ _).trans h).toList
 ·exact Array.Perm.toList h
def lu (c:Nat->Nat->Bool) (n:Nat):List Nat:=if n<2 then List.range n else (aM c (kas_sort n)).toList
theorem oj (c:Nat->Nat->Bool) (n:Nat):(lu c n).Perm (List.range n):=by
 unfold lu
 split
 ·exact .refl _
 ·exact Dc _ _
end Dw
namespace Dw
open PySem PySem.W PyProof.Rows
structure Ord (c:Nat->Nat->Bool):Prop where
 as:∀i j,c i j=true->c j i=false
 nt:∀i j k,c i j=false->c j k=false->c i k=false
noncomputable abbrev a9 (p:Array Nat) (i:Nat):Nat:=p.getD i 0
theorem iN (p:Array Nat) (i:Nat):a9 p i=(p[i]?).getD 0:=by
 unfold a9
 rw [Array.getD_eq_getD_getElem?]
theorem kb {p:Array Nat}{i j:Nat}(hj:j<=p.size) (k:Nat):a9 (kas_rev p i j) k=if i<=k/\k<j then a9 p (i+j - 1 - k) else a9 p k:=by
 rw [iN,iN,iN]
 unfold kas_rev
 rw [getElem?_mirror hj _ (by omega)]
 by_cases h:i<=k/\k<j
 ·rw [Ql h]
  by_cases h':(i<=k/\k<i+(j - i) / 2)∨(j - (j - i) / 2<=k/\k<j)
  ·rw [Ql h']
  ·rw [Qm h',show i+j - 1 - k=k by omega]
 ·rw [Qm h,Qm (by omega)]
theorem Az {p:Array Nat}{k d:Nat}(hk:k<p.size) (hd:d<=k) (i:Nat):a9 (bubble p k d) i=if i=k - d then a9 p k else if k - d<i/\i<=k then a9 p (i - 1) else a9 p i:=by
 rw [iN,getElem?_bubble hk d hd,iN p k,iN p (i - 1),iN p i]
 split
 ·rfl
 ·split<;>rfl
theorem kr (p:Array Nat) (i j:Nat):(kas_rev p i j).size=p.size:=mirror_size _ _ _ _
section
variable {c:Nat->Nat->Bool}
def Up (c:Nat->Nat->Bool) (p:Array Nat) (n:Nat):Prop:=∀a b,a<b->b<n->c (a9 p b) (a9 p a)=false
def Dn (c:Nat->Nat->Bool) (p:Array Nat) (n:Nat):Prop:=∀a b,a<b->b<n->c (a9 p a) (a9 p b)=false
def sf (c:Nat->Nat->Bool) (p:Array Nat) (u v:Nat):Prop:=∀a b,u<=a->a<v->u<=b->b<v->c (a9 p a) (a9 p b)=false
theorem Ord.rf (o:Ord c) (i:Nat):c i i=false:=by
 cases h:c i i with
 | false=>rfl
 | true=>rw [o.as _ _ h] at h;cases h
theorem qMS (o:Ord c) {p:Array Nat}{n:Nat}(h:Up c p n) (hn:n=0∨c (a9 p n) (a9 p (n - 1))=false):Up c p (n+1):=by
 intro a b hab hb
 by_cases e:b<n
 ·exact h a b hab e
 obtain rfl:b=n:=by omega
 rcases hn with z|z
 ·omega
 by_cases e:a=b - 1
 ·rw [e];exact z
 ·exact o.nt _ _ _ z (h a (b - 1) (by omega) (by omega))
theorem nN (o:Ord c) {p:Array Nat}{n:Nat}(h:Dn c p n) (hn:n=0∨c (a9 p (n - 1)) (a9 p n)=false):Dn c p (n+1):=by
 intro a b hab hb
 by_cases e:b<n
 ·exact h a b hab e
 obtain rfl:b=n:=by omega
 rcases hn with z|z
 ·omega
 by_cases e:a=b - 1
 ·rw [e];exact z
 ·exact o.nt _ _ _ (h a (b - 1) (by omega) (by omega)) z
theorem uv (o:Ord c) (p:Array Nat):∀(f n:Nat),0<n->Up c p n->n<=aM c (kas_asc p f n)/\aM c (kas_asc p f n)<=n+f/\Up c p (aM c (kas_asc p f n))/\(aM c (kas_asc p f n)<n+f->c (a9 p (aM c (kas_asc p f n))) (a9 p (aM c (kas_asc p f n) - 1))=true)
 | 0,n,h0,h=>⟨aK _,aK _,h,λz=>Qn z (fX _)⟩
 | f+1,n,h0,h=>by
  rw [kas_asc,jy]
  cases q:c (p.getD n 0) (p.getD (n - 1) 0) with
  | true=>exact⟨aK _,by show n<=_;omega,h,λ_=>q⟩
  | false =>
   obtain⟨h1,h2,h3,h4⟩:=uv o p f (n+1) (by omega) (qMS o h (.inr q))
   rw [Qm (by decide)]
   exact⟨by omega,by omega,h3,λz=>h4 (by omega)⟩
theorem uu (o:Ord c) {p:Array Nat}{n u:Nat}(hs:n<=p.size) (hu:u<=n) (h:Dn c p n) (he:sf c p u n):Dn c (kas_rev p u n) n/\∀b,u<=b->b<n->∀x,(c (a9 p (n - 1)) x=false->c (a9 (kas_rev p u n) b) x=false):=by
 constructor
 ·intro a b hab hb
  rw [kb hs,kb hs]
  by_cases ha:u<=a
  ·rw [Ql (by omega),Ql (by omega)]
   exact he _ _ (by omega) (by omega) (by omega) (by omega)
  ·rw [Qm (by omega)]
   split
   ·by_cases hb':u<=b
    ·exact h _ _ (by omega) (by omega)
    ·omega
   ·exact h _ _ hab hb
 ·intro b h1 h2 x hx
  rw [kb hs,Ql ⟨h1,h2⟩]
  exact o.nt _ _ _ (he _ (n - 1) (by omega) (by omega) (by omega) (by omega)) hx
theorem ri (o:Ord c):∀(f:Nat) (p:Array Nat) (n q:Nat),n+f<=p.size->q+1<=n->Dn c p n->sf c p (n - (q+1)) n ->
  (aM c (kas_desc f p n q)).1.size=p.size/\n<=(aM c (kas_desc f p n q)).2.1/\(aM c (kas_desc f p n q)).2.1<=n+f/\(aM c (kas_desc f p n q)).2.2+1<=(aM c (kas_desc f p n q)).2.1/\Dn c (aM c (kas_desc f p n q)).1 (aM c (kas_desc f p n q)).2.1 /\
   sf c (aM c (kas_desc f p n q)).1 ((aM c (kas_desc f p n q)).2.1 - ((aM c (kas_desc f p n q)).2.2+1)) (aM c (kas_desc f p n q)).2.1
 | 0,p,n,q,hs,hq,hd,he=>⟨rfl,aK _,aK _,hq,hd,he⟩
 | f+1,p,n,q,hs,hq,hd,he=>by
  rw [kas_desc,jy]
  cases q1:c (p.getD n 0) (p.getD (n - 1) 0) with
  | true =>
   rw [Ql rfl]
   have hlt:c (a9 p (n - 1)) (a9 p n)=false:=o.as _ _ q1
   by_cases hq0:q > 0
   ·rw [Ql hq0]
    obtain⟨r1,r2⟩:=uu o (n:=n) (u:=n - (q+1)) (by omega) (by omega) hd he
    have e1:a9 (kas_rev p (n - (q+1)) n) n=a9 p n:=by rw [kb (by omega),Qm (by omega)]
    obtain⟨a1,a2,a3,a4,a5,a6⟩:=ri o f (kas_rev p (n - (q+1)) n) (n+1) 0 (by rw [kr];omega) (by omega) (nN o r1 (.inr (by rw [e1];exact r2 (n - 1) (by omega) (by omega) _ hlt))) (λa b h1 h2 h3 h4=>by
     obtain rfl:a=n:=by omega
     obtain rfl:b=a:=by omega
     exact o.rf _)
    exact⟨by rw [a1,kr],by omega,by omega,a4,a5,a6⟩
   ·rw [Qm hq0]
    obtain⟨a1,a2,a3,a4,a5,a6⟩:=ri o f p (n+1) 0 (by omega) (by omega) (nN o hd (.inr hlt)) (λa b h1 h2 h3 h4=>by
     obtain rfl:a=n:=by omega
     obtain rfl:b=a:=by omega
     exact o.rf _)
    exact⟨a1,by omega,by omega,a4,a5,a6⟩
  | false =>
   rw [Qm (by decide),jy]
   cases q2:c (p.getD (n - 1) 0) (p.getD n 0) with
   | true=>exact⟨rfl,aK _,by show n<=_;omega,hq,hd,he⟩
   | false =>
    rw [Qm (by decide)]
    obtain⟨a1,a2,a3,a4,a5,a6⟩:=ri o f p (n+1) (q+1) (by omega) (by omega) (nN o hd (.inr q2)) (λa b h1 h2 h3 h4=>by
     by_cases ea:a=n
     ·subst ea
      by_cases eb:b=a
      ·subst eb;exact o.rf _
      ·exact o.nt _ _ _ q1 (he (a - 1) b (by omega) (by omega) (by omega) (by omega))
     ·by_cases eb:b=n
      ·subst eb
       exact o.nt _ _ _ (he a (b - 1) (by omega) (by omega) (by omega) (by omega)) q2
      ·exact he a b (by omega) (by omega) (by omega) (by omega))
    exact⟨a1,by omega,by omega,a4,a5,a6⟩
theorem BN (o:Ord c) {p:Array Nat}{k m:Nat}(hk:0<k) (hkm:k<=m) (hm:m<=p.size) (h:Dn c p k):Up c (aM c (kas_tail3 k m p)).2 (aM c (kas_tail3 k m p)).1/\(aM c (kas_tail3 k m p)).1<=m/\0<(aM c (kas_tail3 k m p)).1/\(aM c (kas_tail3 k m p)).2.size=p.size:=by
 rw [kas_tail3,gG,qKE]
 have hu:Up c (kas_rev p 0 k) k:=λa b hab hb=>by
  rw [kb (by omega),kb (by omega),Ql (by omega),Ql (by omega)]
  exact h _ _ (by omega) (by omega)
 obtain⟨h1,h2,h3,h4⟩:=uv o (kas_rev p 0 k) (m - k) k hk hu
 exact⟨h3,by show aM c (kas_asc (kas_rev p 0 k) (m - k) k)<=m;omega,by show 0<aM c (kas_asc (kas_rev p 0 k) (m - k) k);omega,kr _ _ _⟩
theorem Bl (o:Ord c) {p:Array Nat}{n m:Nat}(hn:n<m) (hm:m<=p.size) (h:Dn c p (n+1)):Up c (aM c (kas_descPart n m p)).2 (aM c (kas_descPart n m p)).1/\(aM c (kas_descPart n m p)).1<=m/\0<(aM c (kas_descPart n m p)).1/\(aM c (kas_descPart n m p)).2.size=p.size:=by
 rw [kas_descPart,gG]
 obtain⟨a1,a2,a3,a4,a5,a6⟩:=ri o (m - (n+1)) p (n+1) 0 (by omega) (by omega) h (λa b h1 h2 h3 h4=>by
  obtain rfl:a=n:=by omega
  obtain rfl:b=a:=by omega
  exact o.rf _)
 generalize aM c (kas_desc (m - (n+1)) p (n+1) 0)=r at *
 obtain⟨r1,r2,r3⟩:=r
 dsimp only at *
 split
 ·obtain⟨b1,b2⟩:=uu o (n:=r2) (u:=r2 - (r3+1)) (by omega) (by omega) a5 a6
  have:=BN o (k:=r2) (m:=m) (by omega) (by omega) (by rw [kr];omega) b1
  rw [kr,a1] at this
  exact this
 ·have:=BN o (k:=r2) (m:=m) (p:=r1) (by omega) (by omega) (by omega) a5
  rw [a1] at this
  exact this
theorem qLt (o:Ord c) {p:Array Nat}{m:Nat}(hm0:0<m) (hm:m<=p.size):Up c (aM c (kas_count m p)).2 (aM c (kas_count m p)).1/\(aM c (kas_count m p)).1<=m/\0<(aM c (kas_count m p)).1/\(aM c (kas_count m p)).2.size=p.size:=by
 rw [kas_count,gG]
 obtain⟨h1,h2,h3,h4⟩:=uv o p (m - 1) 1 (by omega) (λa b hab hb=>by omega)
 generalize aM c (kas_asc p (m - 1) 1)=n at *
 by_cases e:n=m
 ·rw [Ql (by simpa using e)]
  exact⟨h3,by show n<=m;omega,by show 0<n;omega,rfl⟩
 rw [Qm (by simpa using e)]
 have hlt:c (a9 p (n - 1)) (a9 p n)=false:=o.as _ _ (h4 (by omega))
 by_cases e1:n > 1
 ·rw [Ql e1,jy]
  cases q:c (p.getD 0 0) (p.getD (n - 1) 0) with
  | true=>exact⟨h3,by show n<=m;omega,by show 0<n;omega,rfl⟩
  | false =>
   rw [Qm (by decide)]
   have he:sf c p 0 n:=λa b _ ha _ hb=>by
    have s1:c (a9 p a) (a9 p 0)=false:=by
     by_cases z:a=0
     ·rw [z];exact o.rf _
     ·exact h3 0 a (by omega) ha
    have s2:c (a9 p (n - 1)) (a9 p b)=false:=by
     by_cases z:b=n - 1
     ·rw [z];exact o.rf _
     ·exact h3 b (n - 1) (by omega) (by omega)
    exact o.nt _ _ _ s1 (o.nt _ _ _ q s2)
   obtain⟨r1,r2⟩:=uu o (n:=n) (u:=0) (by omega) (by omega) (λa b _ hb=>he a b (by omega) (by omega) (by omega) hb) he
   have e3:a9 (kas_rev p 0 n) n=a9 p n:=by rw [kb (by omega),Qm (by omega)]
   have:=Bl o (p:=kas_rev p 0 n) (n:=n) (m:=m) (by omega) (by rw [kr];exact hm) (nN o r1 (.inr (by rw [e3];exact r2 (n - 1) (by omega) (by omega) _ hlt)))
   rw [kr] at this
   exact this
 ·rw [Qm e1]
  obtain rfl:n=1:=by omega
  exact Bl o (by omega) hm (nN o (λa b hab hb=>by omega) (.inr hlt))
theorem vF (o:Ord c) {p:Array Nat}{k:Nat}(h:Up c p k):∀(f l r:Nat),r - l<=f->l<=r->r<=k->(∀i,i<l->c (a9 p k) (a9 p i)=false)->(∀i,r<=i->i<k->c (a9 p k) (a9 p i)=true) ->
  aM c (kas_place p k f l r)<=k/\(∀i,i<aM c (kas_place p k f l r)->c (a9 p k) (a9 p i)=false)/\(∀i,aM c (kas_place p k f l r)<=i->i<k->c (a9 p k) (a9 p i)=true)
 | 0,l,r,hf,hl,hr,h1,h2=>⟨by show l<=k;omega,h1,λi hi=>h2 i (by have:l<=i:=hi;omega)⟩
 | f+1,l,r,hf,hl,hr,h1,h2=>by
  rw [kas_place]
  by_cases e:l ≥ r
  ·rw [Ql e]
   exact⟨by show l<=k;omega,h1,λi hi=>h2 i (by have:l<=i:=hi;omega)⟩
  rw [Qm e,jy]
  cases q:c (p.getD k 0) (p.getD ((l+r) / 2) 0) with
  | true =>
   rw [Ql rfl]
   refine vF o h f l ((l+r) / 2) (by omega) (by omega) (by omega) h1 λi hi hik=>?_
   cases z:c (a9 p k) (a9 p i) with
   | true=>rfl
   | false =>
    have:c (a9 p k) (a9 p ((l+r) / 2))=false:=by
     by_cases e':i=(l+r) / 2
     ·rw [<-e'];exact z
     ·exact o.nt _ _ _ z (h _ i (by omega) hik)
    rw [show c (a9 p k) (a9 p ((l+r) / 2))=true from q] at this
    cases this
  | false =>
   rw [Qm (by decide)]
   refine vF o h f ((l+r) / 2+1) r (by omega) (by omega) hr (λi hi=>?_) h2
   by_cases e':i=(l+r) / 2
   ·rw [e'];exact q
   ·exact o.nt _ _ _ q (h i ((l+r) / 2) (by omega) (by omega))
theorem Aw (o:Ord c):∀(f:Nat) (p:Array Nat) (k:Nat),k+f<=p.size->Up c p k->Up c (aM c (kas_bin f p k)) (k+f)
 | 0,p,k,_,h=>h
 | f+1,p,k,hs,h=>by
  rw [kas_bin,gG]
  obtain⟨a1,a2,a3⟩:=vF o h k 0 k (by omega) (by omega) (aK _) (λi hi=>Qn hi (by omega)) (λi h1 h2=>Qn h1 (by omega))
  generalize aM c (kas_place p k k 0 k)=l at *
  have:=Aw o f (bubble p k (k - l)) (k+1) (by rw [bubble_size];omega) (λa b hab hb=>by
   rw [Az (by omega) (by omega),Az (by omega) (by omega)]
   have el:k - (k - l)=l:=by omega
   rw [el]
   by_cases hbl:b=l
   ·rw [Ql hbl,Qm (by omega),Qm (by omega)]
    exact a2 a (by omega)
   ·rw [Qm hbl]
    by_cases hb1:l<b/\b<=k
    ·rw [Ql hb1]
     by_cases hal:a=l
     ·rw [Ql hal]
      exact o.as _ _ (a3 (b - 1) (by omega) (by omega))
     ·rw [Qm hal]
      by_cases ha1:l<a/\a<=k
      ·rw [Ql ha1];exact h _ _ (by omega) (by omega)
      ·rw [Qm ha1]
       by_cases e:a=b - 1
       ·omega
       ·exact h _ _ (by omega) (by omega)
    ·rw [Qm hb1,Qm (by omega),Qm (by omega)]
     exact h _ _ hab (by omega))
  rw [show k+(f+1)=k+1+f by omega]
  exact this
theorem qNs (o:Ord c) (n:Nat):Up c (aM c (kas_sort n)) n:=by
 by_cases h0:n=0
 ·subst h0;exact λa b _ hb=>Qn hb (by omega)
 rw [kas_sort,gG]
 obtain⟨a1,a2,a3,a4⟩:=qLt o (p:=(List.range n).toArray) (m:=n) (by omega) (by simp)
 generalize aM c (kas_count n (List.range n).toArray)=r at *
 obtain⟨m,p⟩:=r
 dsimp only at *
 have hsz:p.size=n:=by rw [a4];simp
 by_cases e:m<n
 ·rw [Ql e]
  have hm:max m 1=m:=by omega
  rw [hm]
  have:=Aw o (n - m) p m (by omega) a1
  rw [show m+(n - m)=n by omega] at this
  exact this
 ·rw [Qm e]
  obtain rfl:m=n:=by omega
  exact a1
end
end Dw
namespace Dw
open PySem PySem.W PySem.Calls PyProof.Rows
def fS {α:Type}(c:Nat->Nat->Bool) (n:Nat):KasT α->Prop
 | .ret _=>True
 | .ask i j k=>i<n/\j<n/\fS c n (k (c i j))
section
variable {c:Nat->Nat->Bool}{n:Nat}
theorem md {α β:Type}{f:α->KasT β}:∀{t:KasT α},fS c n t->fS c n (f (aM c t))->fS c n (t.bind f)
 | .ret _,_,h=>h
 | .ask i j k,h,h'=>⟨h.1,h.2.1,md (t:=k (c i j)) h.2.2 h'⟩
theorem AR {α:Type}{cmp:Nat->Nat->(Bool->Shared->Prop)->Shared->Prop}{s:Shared}(hc:∀i j C,i<n->j<n->C (c i j) s->cmp i j C s) {Q:α->Shared->Prop}:∀t:KasT α,fS c n t->Q (aM c t) s->t.kasWp cmp Q s
 | .ret _,_,h=>h
 | .ask i j k,h,h'=>hc i j _ h.1 h.2.1 (AR hc (k (c i j)) h.2.2 h')
def Bd (n:Nat) (p:Array Nat):Prop:=∀i,p.getD i 0<n
theorem Bd.mv {p q:Array Nat}(h0:0<n) (h:Bd n p) (e:q.Perm p):Bd n q:=λi=>by
 rw [Array.getD_eq_getD_getElem?]
 cases z:q[i]? with
 | none=>exact h0
 | some x =>
  have hx:x∈p:=e.mem_iff.mp (Array.mem_of_getElem? z)
  obtain⟨j,hj⟩:=Array.getElem?_of_mem hx
  have:=h j
  rw [Array.getD_eq_getD_getElem?,hj] at this
  exact this
theorem uN {p:Array Nat}(h:Bd n p):∀f k,fS c n (kas_asc p f k)
 | 0,k=>trivial
 | f+1,k=>by
  rw [kas_asc]
  refine⟨h _,h _,?_⟩;dsimp only
  split
  ·trivial
  ·exact uN h f (k+1)
theorem rJ (h0:0<n):∀f (p:Array Nat) k q,Bd n p->fS c n (kas_desc f p k q)
 | 0,p,k,q,h=>trivial
 | f+1,p,k,q,h=>by
  rw [kas_desc]
  refine⟨h _,h _,?_⟩;dsimp only
  split
  ·split
   ·exact rJ h0 f _ _ _ (h.mv h0 (jx _ _ _))
   ·exact rJ h0 f _ _ _ h
  ·refine⟨h _,h _,?_⟩;dsimp only
   split
   ·trivial
   ·exact rJ h0 f _ _ _ h
theorem CN (h0:0<n) {p:Array Nat}(h:Bd n p) (k m:Nat):fS c n (kas_tail3 k m p):=by
 rw [kas_tail3]
 exact md (uN (h.mv h0 (jx _ _ _)) _ _) trivial
theorem CM (h0:0<n) {p:Array Nat}(h:Bd n p) (k m:Nat):fS c n (kas_descPart k m p):=by
 rw [kas_descPart]
 refine md (rJ h0 _ _ _ _ h) ?_
 have e:=oi c (m - (k+1)) p (k+1) 0
 split
 ·exact CN h0 (h.mv h0 ((jx _ _ _).trans e)) _ _
 ·exact CN h0 (h.mv h0 e) _ _
theorem qH7 (h0:0<n) {p:Array Nat}(h:Bd n p) (m:Nat):fS c n (kas_count m p):=by
 rw [kas_count]
 refine md (uN h _ _) ?_
 split
 ·trivial
 ·split
  ·refine⟨h _,h _,?_⟩;dsimp only
   split
   ·trivial
   ·exact CM h0 (h.mv h0 (jx _ _ _)) _ _
  ·exact CM h0 h _ _
theorem vp {p:Array Nat}(h:Bd n p) (k:Nat):∀f l r,fS c n (kas_place p k f l r)
 | 0,l,r=>trivial
 | f+1,l,r=>by
  rw [kas_place]
  split
  ·trivial
  ·refine⟨h _,h _,?_⟩;dsimp only
   split
   ·exact vp h k f _ _
   ·exact vp h k f _ _
theorem B6 (h0:0<n):∀f (p:Array Nat) k,Bd n p->fS c n (kas_bin f p k)
 | 0,p,k,h=>trivial
 | f+1,p,k,h=>by
  rw [kas_bin]
  exact md (vp h _ _ _ _) (B6 h0 f _ _ (h.mv h0 (bubble_perm _ _ _)))
theorem qKH (h0:0<n):fS c n (kas_sort n):=by
 have hb:Bd n (List.range n).toArray:=λi=>by
  rw [Array.getD_eq_getD_getElem?]
  by_cases h:i<n
  ·simp [h]
  ·simp [h0,sZ h]
 rw [kas_sort]
 refine md (qH7 h0 hb _) ?_
 have e:=Dq c n (List.range n).toArray
 split
 ·exact B6 h0 _ _ _ (hb.mv h0 e)
 ·trivial
end
section
variable {prog:Program}{w:World}{A:Around}{E:Value->Shared->Prop}{s:Shared}
def iI (c:Nat->Nat->Bool) (vs:List Value):List Value:=(aM c (kas_sort vs.length)).toList.map λi=>vs.getD i Value.none
theorem qHO {a:Addr}{vs:List Value}{n:Nat}{κ:SortKind}{c:Nat->Nat->Bool}{P:PySem.Fin->Shared->Prop}(ho:s.heap.get? a=some (seqObj "list" vs.toArray n)) (h2:2<=vs.length) (h64:vs.length<64)
  (hk:∀s':Shared,(∀b o,b≠a->s.heap.get? b=some o->s'.heap.get? b=some o)->wpAny (model prog w) A (keyKind' vs.toArray) (fun κ' s0=>κ'=κ/\s0=s') (λ_ _=>False) s')
  (hc:∀s':Shared,(∀b o,b≠a->s.heap.get? b=some o->s'.heap.get? b=some o)->∀i j C,i<vs.length->j<vs.length->C (c i j) s'->kas_ask prog w A κ vs i j C s')
  (k:∀h' m,(∀b o,b≠a->s.heap.get? b=some o->h'.get? b=some o)->h'.get? a=some (seqObj "list" (iI c vs).toArray m)->P (.done (.ret .none)) { s with heap:=h' }) :
  wpAny (model prog w) A (Builtin.«list.sort» ⟨[.ref a],[]⟩) P E s:=by
 have s1:=Heap.SameBut.update s.heap a (Obj.mapSeq λ_=>(#[]:Array Value))
 obtain⟨e1,ho1⟩:∃e1,(s.heap.update a (Obj.mapSeq λ_=>(#[]:Array Value))).get? a=some (seqObj "list" #[] e1):=⟨_,get?_update_seq ho λ_=>#[]⟩
 generalize hH:((s.heap.update a (Obj.mapSeq λ_=>(#[]:Array Value))).push (seqObj "tuple" vs.toArray 0)).push (seqObj "list" #[] 0)=H3
 have kp:∀b o,b≠a->s.heap.get? b=some o->H3.get? b=some o:=λb o hb e=>by
  rw [<-hH];exact Qg _ (Qg _ (s1.extBut b o hb e))
 have ha3:H3.get? a=some (seqObj "list" #[] e1):=by rw [<-hH];exact Qg _ (Qg _ ho1)
 rw [list_sort_plain]
 refine Qc (listItems_at ho rfl (Qc (listUpdate_at ho rfl ?_ (by rw [aZ,sizeLine_eq];omega) (fq _))))
 refine Qc (seqEpoch_at ho1 rfl (Qc (wpAny_newTuple ?_ (by show vs.length<=_;rw [sizeLine_eq];omega))))
 refine Qc (wpAny_newList (wpAny_holding ?_) (fq _))
 show wpAny (model prog w) A _ P E { s with heap:=((s.heap.update a (Obj.mapSeq λ_=>(#[]:Array Value))).push (seqObj "tuple" vs.toArray 0)).push (seqObj "list" #[] 0) }
 rw [hH];dsimp only
 have hn2:¬vs.toArray.size<2:=by rw [aZ];omega
 rw [Qm hn2,Qm hn2]
 refine Qc (Qe (hk { s with heap:=H3 } kp) (fun κ' s0 e=>?_) λ_ _ x=>x.elim)
 obtain⟨rfl,rfl⟩:=e
 have run:=kat_run (E:=E) (prog:=prog) (w:=w) (A:=A) (κ:=κ') (ks:=vs) (vs:=vs) (s:={ s with heap:=H3 }) (Q:=λst' s'=>∃p:Array Nat,p.size=vs.length/\arrOf st'=p.map (kas_item (vs.toArray.zip vs.toArray))/\failedOf st'=none/\p=aM c (kas_sort vs.length)/\s'={ s with heap:=H3 }) (G:=λp s'=>p=aM c (kas_sort vs.length)/\s'={ s with heap:=H3 })
  rfl h2 h64 (λp' st' s' a1 a2 a3 a4=>⟨p',a1,a2,a3,a4⟩) (AR (λi j C hi hj hC=>hc { s with heap:=H3 } kp i j C hi hj hC) _ (qKH (by omega)) ⟨rfl,rfl⟩)
 refine Qc (Qe run ?_ λ_ _ e=>e)
 rintro⟨⟨⟩,st'⟩ s' ⟨p,hp,har,hf,rfl,rfl⟩
 dsimp only
 have hout:(arrOf st').map (·.2)=(iI c vs).toArray:=kat_snds rfl har
 have hsz:(iI c vs).toArray.size=vs.length:=by rw [aZ,iI,fV,pz,hp]
 rw [hout]
 obtain⟨c2,hc2⟩:∃c2,(H3.update a (Obj.mapSeq λ_=>(iI c vs).toArray)).get? a=some (seqObj "list" (iI c vs).toArray c2):=⟨_,get?_update_seq ha3 λ_=>(iI c vs).toArray⟩
 refine Qc (seqEpoch_at ha3 rfl (Qc (listUpdate_at ha3 rfl ?_ (fq _) (dR (Nat.le_of_eq hsz) (by rw [sizeLine_eq];omega)))))
 rw [hf];simp only [bne_self_eq_false,jM,if_false]
 exact Qd (k _ c2 (λb o hb e=>(Heap.SameBut.update H3 a _).extBut b o hb (kp b o hb e)) hc2)
end
end Dw
namespace Dw
open PySem
structure Kn where
 c:Nat
 ns:List Str
 deriving DecidableEq,Inhabited
inductive D where
 | non|bl (b:Bool)|int (i:Int)|str (x:Str)|tup (ds:List D)|lst (ds:List D)
  | dct (m:Bool) (ks:List Int)
  | obj (ns:Kn) (ds:List D)
 deriving Inhabited
inductive BOp where|add|sub|mul|fdiv|mod|pow|shl|shr|band|bor|bxor
 deriving DecidableEq,Inhabited
inductive COp where|eq|ne|lt|le|gt|ge|isin|notin
 deriving DecidableEq,Inhabited
inductive BI where|len|abs|min|max|sum|all|tuple|list|int|any|str|sorted
 deriving DecidableEq,Inhabited
inductive Ty where|int|bool|tuple|list|str
 deriving DecidableEq,Inhabited
inductive Tg where|one (i:Nat)|two (i j:Nat)|many (is:List Nat)
 deriving DecidableEq,Inhabited
inductive Ar where|pos (i:Nat)|kw (i:Nat)|dft (j:Nat) (d:D)
 deriving Inhabited
inductive C where
 | v (i:Nat)
 | k (d:D)
 | bin (o:BOp) (a b:C)
 | neg (a:C)
 | cmp (o:COp) (a b:C)
 | isC (neg:Bool) (a:C) (d:D)
 | and (a b:C)|or (a b:C)|not (a:C)
 | ix (a b:C)
 | sl (a:C) (lo hi:Option C)
 | tup (as:List C)|lst (as:List C)
 | call (f:Nat) (as:List C)
 | bi (b:BI) (as:List C)
 | isi (a:C) (t:Ty)
 | bitl (a:C)
 | ifx (c a b:C)
 | rev (a:C)
 | join (a b:C)
 | fstr (as:List C)
 | chn (o p:COp) (a b c:C)
 | callP (f:Nat) (as ks:List C) (pl:List Ar)
 | compS (e:C) (nl:Nat) (ks:List Nat) (tg:Tg) (src:C)
 | compR (e:C) (nl:Nat) (ks:List Nat) (tg:Tg) (rs:List C)
 | compZ (e:C) (nl:Nat) (ks:List Nat) (tg:Tg) (a b:C)
 | compE (e:C) (nl:Nat) (ks:List Nat) (tg:Tg) (a:C)
 | compF (e c:C) (nl:Nat) (ks:List Nat) (tg:Tg) (src:C)
 | compG (e c:C) (nl:Nat) (ks:List Nat) (tg:Tg) (rs:List C)
 | fld (a:C) (j:Nat) (f:Str)
 | mk (kn:Kn) (as:List C)
 | mc (a:C) (m:Str) (tb:List (Nat×Nat)) (bs:List C)
 | iso (a:C) (tb:List (Nat×Bool))
 | cntT (a:C)
 | fmt (a:C)
 | revL (a:C)
 | lrng (a b:C)
 deriving Inhabited
inductive S where
 | frz (is:List Nat)
 | set (i:Nat) (keep:Bool) (e:C)
 | dnew (i:Nat)
 | aug (i:Nat) (e:C)
 | popE (i:Nat)
 | setIx (i:Nat) (k e:C)
 | hnd (i f:Nat) (as:List C)
 | forO (i x:Nat) (c:C) (body:List S)
 | popX (j i:Nat) (k:Int)
 | app (i:Nat) (e:C)
 | ret (e:C)
 | ite (c:C) (a b:List S)
 | forS (tg:Tg) (src:C) (body:List S)
 | forR (tg:Tg) (rs:List C) (body:List S)
 | forZ (tg:Tg) (a b:C) (body:List S)
 | forE (tg:Tg) (a:C) (body:List S)
 | forV (tg:Tg) (rs:List C) (body:List S)
 | ext (i:Nat) (e:C)
 | asgT (tg:Tg) (e:C)
 | pop (tg:Tg) (i:Nat)
 | whl (c:C) (body:List S)
 | brk
 | cnt
 | stk
 deriving Inhabited
abbrev R:=Bool×D
abbrev En:=List (Option R)
mutual
@[simp] def bu:D->D->Bool
 | .non,.non=>true
 | .bl a,.bl b=>a == b
 | .bl a,.int b=>(if a then (1:Int) else 0) == b
 | .int a,.bl b=>a == (if b then (1:Int) else 0)
 | .int a,.int b=>a == b
 | .str a,.str b=>a == b
 | .tup xs,.tup ys=>fv xs ys
 | .lst xs,.lst ys=>fv xs ys
 | .dct a ks,.dct b js=>a == b&&ks == js
 | .obj a xs,.obj b ys=>a == b&&fv xs ys
 | _,_=>false
@[simp] def fv:List D->List D->Bool
 | [],[]=>true
 | x::xs,y::ys=>bu x y&&fv xs ys
 | _,_=>false
end
mutual
@[simp] noncomputable def bI:Nat->D->Bool
 | 0,.tup _=>false
 | 0,.lst _=>false
 | n+1,.tup ds=>hJ n ds
 | n+1,.lst ds=>hJ n ds
 | _,_=>true
@[simp] noncomputable def hJ:Nat->List D->Bool
 | _,[]=>true
 | n,d::ds=>bI n d&&hJ n ds
end
theorem vK {α:Type}(n:Nat) (f:α->D):∀l:List α,hJ n (l.map f)=l.all λx=>bI n (f x)
 | []=>rfl
 | x::r=>by simp [vK n f r]
mutual
@[simp] noncomputable def br:D->Bool
 | .tup ds=>bT ds
 | .lst ds=>bT ds
 | .obj _ _=>false
 | _=>true
@[simp] noncomputable def bT:List D->Bool
 | []=>true
 | d::ds=>br d&&bT ds
end
theorem kq {α:Type}(f:α->D):∀l:List α,bT (l.map f)=l.all λx=>br (f x)
 | []=>rfl
 | x::r=>by simp [kq f r]
@[simp] noncomputable def pX:D->D->Option Bool
 | .lst xs,.lst []=>some xs.isEmpty
 | _,_=>none
noncomputable def HX:Nat:=1000000
noncomputable def lim:Nat:=2^24
noncomputable def fR:Nat:=2^4000
noncomputable def fH:Nat:=2^1048576
noncomputable def jX:Nat:=2^1048640
def dH (a b:Int):Bool:=decide ((a.natAbs<2^240/\b.natAbs<2^240)∨a.natAbs<2^64∨b.natAbs<2^64∨(a.natAbs<jX/\b.natAbs<jX))
def fK (b:Int):Bool:=decide (b≠0/\(b.natAbs<2^240∨b.natAbs<fR))
def qS1 (a b:Int):Bool:=decide (0<=b/\b<=1000/\a.natAbs<2^64)
def fL (a b:Int):Bool:=decide (a.natAbs<2^240/\0<=b/\b<=200)
def fF (is:List Int):List Int:=is.mergeSort (λa b=>decide (a<=b))
noncomputable def yE (i:Int):Str:=Qa (toString i)
noncomputable def zm (sep:Str) (ts:List Str):Str:=⟨(ts.drop 1).foldl (λacc p=>acc++sep.cps++p.cps) (ts.headD Str.empty).cps⟩
@[simp] noncomputable def uK:List D->Option (List Str)
 | []=>some []
 | .str i::r=>(uK r).map (i::·)
 | _=>none
def qRf (sep:Str) (ts:List Str):Bool:=decide (ts.toArray.foldl (λn t=>n+t.length+sep.length) 0<=lim/\(zm sep ts).length<=lim)
@[simp] def qTz:D->D->Option R
 | .str sep,.lst xs=>(uK xs).bind λts=>if qRf sep ts then some (false,.str (zm sep ts)) else none
 | _,_=>none
def zf (acc:Str):List Str->Option Str
 | []=>some acc
 | t::r=>if (acc++t).length<=lim then zf (acc++t) r else none
@[simp] noncomputable def qVc:D->Option R
 | .tup xs=>some (false,.tup xs.reverse)
 | _=>none
def eH:BOp->D->D->Option R
 | .add,.int a,.int b=>some (false,.int (a+b))
 | .sub,.int a,.int b=>some (false,.int (a - b))
 | .mul,.int a,.int b=>if dH a b then some (false,.int (a * b)) else none
 | .fdiv,.int a,.int b=>if fK b then some (false,.int (a.fdiv b)) else none
 | .mod,.int a,.int b=>if fK b then some (false,.int (a.fmod b)) else none
 | .pow,.int a,.int b=>if fL a b then some (false,.int (a^b.toNat)) else none
 | .shl,.int a,.int b=>if qS1 a b then some (false,.int (a * 2^b.toNat)) else none
 | .shr,.int a,.int b=>if 0<=b then some (false,.int (a / 2^b.toNat)) else none
 | .band,.int a,.int b=>if 0<=a/\0<=b then some (false,.int ((a.toNat &&& b.toNat:Nat):Int)) else none
 | .bor,.int a,.int b=>if 0<=a/\0<=b then some (false,.int ((a.toNat ||| b.toNat:Nat):Int)) else none
 | .bxor,.int a,.int b=>if 0<=a/\0<=b then some (false,.int (((a.toNat ||| b.toNat:Nat):Int) - ((a.toNat &&& b.toNat:Nat):Int))) else none
 | .add,.lst a,.lst b=>if a.length+b.length<=lim then some (true,.lst (a++b)) else none
 | .add,.str a,.str b=>if a.length+b.length<=lim then some (false,.str (a++b)) else none
 | .add,.tup [],.tup b=>some (false,.tup b)
 | .add,.tup (x::a),.tup b=>if a.length+1+b.length<=lim then some (false,.tup (x::a++b)) else none
 | .mul,.lst a,.int b=>if a.length * b.toNat<=lim/\-(2^62)<b/\b<2^62 then some (true,.lst (List.replicate b.toNat a).flatten) else none
 | _,_,_=>none
@[simp] noncomputable def f7:List D->Option (List Int)
 | []=>some []
 | .int i::r=>(f7 r).map (i::·)
 | _=>none
def dj (ys:List D) (x:D):Bool:=ys.any λy=>bu y x
@[simp] def rV (n:Bool):D->D->Option R
 | x,.tup ys=>if bI 19 x&&(br x&&bT ys) then some (false,.bl (if n then !(dj ys x) else dj ys x)) else none
 | x,.lst ys=>if bI 19 x&&(br x&&bT ys) then some (false,.bl (if n then !(dj ys x) else dj ys x)) else none
 | _,_=>none
@[simp] def eI:COp->D->D->Option R
 | .isin,a,b=>rV false a b
 | .notin,a,b=>rV true a b
 | .eq,a,b=>if (bI 20 a||bI 20 b)&&(br a&&br b) then some (false,.bl (bu a b)) else none
 | .ne,a,b=>if (bI 20 a||bI 20 b)&&(br a&&br b) then some (false,.bl (!bu a b)) else (pX a b).map λe=>(false,.bl (!e))
 | .lt,.int a,.int b=>some (false,.bl (decide (a<b)))
 | .le,.int a,.int b=>some (false,.bl (decide (a<=b)))
 | .gt,.int a,.int b=>some (false,.bl (decide (b<a)))
 | .ge,.int a,.int b=>some (false,.bl (decide (b<=a)))
 | _,_,_=>none
@[simp] noncomputable def ixN (n:Nat) (i:Int):Option Nat:=if 0<=i then (if i<n then some i.toNat else none) else if -(n:Int)<=i then some (i+n).toNat else none
@[simp] def gI (xs:List D) (i:Int):Option D:=(ixN xs.length i).bind λj=>xs[j]?
@[simp] noncomputable def cutAt (n d:Nat):Option Int->Nat
 | none=>d
 | some v=>if v<0 then (v+n).toNat else min v.toNat n
@[simp] def gw (xs:List D) (lo hi:Option Int):List D:=(xs.drop (cutAt xs.length 0 lo)).take (cutAt xs.length xs.length hi - cutAt xs.length 0 lo)
@[simp] noncomputable def g9:List D->Option (List Bool)
 | []=>some []
 | .bl i::r=>(g9 r).map (i::·)
 | _=>none
noncomputable def rS:List Int->Option Int
 | []=>none
 | a::r=>some (r.foldl (λm x=>if x<m then x else m) a)
noncomputable def rR:List Int->Option Int
 | []=>none
 | a::r=>some (r.foldl (λm x=>if m<x then x else m) a)
noncomputable def dI:List Int->List Int->Bool
 | [],[]=>false
 | [],_::_=>true
 | _::_,[]=>false
 | x::xs,y::ys=>if x=y then dI xs ys else decide (x<y)
def lN:List D->Option (List (List Int))
 | []=>some []
 | .tup ds::r=>(f7 ds).bind λis=>(lN r).map (is::·)
 | _=>none
def tN (xs:List D):Option R:=match f7 xs with
 | some is=>(rS is).map λm=>(false,.int m)
 | none=>none
def dW (ts:List (List Int)):List Nat:=lu (λi j=>dI (ts.getD i []) (ts.getD j [])) ts.length
def lr (xs:List D):Option R:=match f7 xs with
 | some is=>if is.length<64 then some (true,.lst ((fF is).map .int)) else none
 | none=>(lN xs).bind λts=>if ts.length<64/\∀t∈ts,t≠[] then some (true,.lst ((dW ts).map λk=>xs.getD k .non)) else none
def mz:BI->List D->Option R
 | .len,[.tup xs]=>some (false,.int xs.length)
 | .len,[.lst xs]=>some (false,.int xs.length)
 | .abs,[.int i]=>some (false,.int (if i<0 then -i else i))
 | .min,[.int i,.int j]=>some (false,.int (if j<i then j else i))
 | .max,[.int i,.int j]=>some (false,.int (if j > i then j else i))
 | .max,[.int i,.int j,.int k]=>some (false,.int (if k > (if j > i then j else i) then k else (if j > i then j else i)))
 | .min,[.lst xs]=>tN xs
 | .max,[.lst xs]=>(f7 xs).bind λis=>(rR is).map λm=>(false,.int m)
 | .sum,[.lst xs]=>(f7 xs).map λis=>(false,.int is.sum)
 | .all,[.lst xs]=>(g9 xs).map λbs=>(false,.bl (bs.all id))
 | .sorted,[.lst xs]=>lr xs
 | .sorted,[.tup xs]=>(f7 xs).bind λis=>if is.length<64 then some (true,.lst ((fF is).map .int)) else none
 | .any,[.lst xs]=>(g9 xs).map λbs=>(false,.bl (bs.any id))
 | .str,[.int i]=>if i.natAbs<2^240 then some (false,.str (yE i)) else none
 | .tuple,[.lst xs]=>some (false,.tup xs)
 | .tuple,[.tup xs]=>some (false,.tup xs)
 | .list,[.lst xs]=>some (true,.lst xs)
 | .list,[.tup xs]=>some (true,.lst xs)
 | .int,[.bl b]=>some (false,.int (if b then 1 else 0))
 | .int,[.int i]=>some (false,.int i)
 | _,_=>none
@[simp] noncomputable def pM:Ty->D->Bool
 | .int,.int _=>true
 | .int,.bl _=>true
 | .bool,.bl _=>true
 | .tuple,.tup _=>true
 | .list,.lst _=>true
 | .str,.str _=>true
 | _,_=>false
@[simp] def tG (t:Ty):D->Option R
 | .obj _ _=>none
 | d=>some (false,.bl (pM t d))
@[simp] def mw (neg:Bool):D->D->Option R
 | .obj _ _,.non=>some (false,.bl neg)
 | .obj _ _,_=>none
 | .non,.non=>some (false,.bl (!neg))
 | _,.non=>some (false,.bl neg)
 | .bl a,.bl b=>some (false,.bl (if a == b then !neg else neg))
 | _,.bl _=>some (false,.bl neg)
 | _,_=>none
@[simp] noncomputable def ax (Z:En) (i:Nat):Option R:=(Z[i]?).join
noncomputable def nK (Z:En):List Nat->List D->Option En
 | [],[]=>some Z
 | i::is,d::ds=>nK (Z.set i (some (false,d))) is ds
 | _,_=>none
def de (Z:En):Tg->D->Option En
 | .one i,d=>some (Z.set i (some (false,d)))
 | .two i j,.tup [x,y]=>some ((Z.set i (some (false,x))).set j (some (false,y)))
 | .many is,.tup ds=>nK Z is ds
 | _,_=>none
def eJ (a b c:Int):Int:=if c > 0 then if a<b then (b - a - 1) / c+1 else 0 else if a > b then (a - b - 1) / -c+1 else 0
@[simp] def d9:List D->Option (List D)
 | [.int n]=>if -(2^62)<=n/\n<2^62 then some ((List.range n.toNat).map λi=>.int (i:Nat)) else none
 | [.int a,.int b]=>some ((List.range (b - a).toNat).map λi=>.int (a+(i:Nat)))
 | [.int a,.int b,.int c]=>if -(2^62)<=a/\a<2^62/\-(2^62)<=b/\b<2^62/\c≠0/\c.natAbs<2^30 then some ((List.range (eJ a b c).toNat).map λi=>.int (a+(i:Nat) * c)) else none
 | _=>none
@[simp] noncomputable def iA:List D->Option (List D)
 | [.int n]=>if -(2^62)<=n/\n<2^62 then some ((List.range n.toNat).map λi=>.int ((n.toNat:Int) - 1 - (i:Nat))) else none
 | _=>none
@[simp] noncomputable def bR:D->Option (List D)
 | .lst xs=>some xs
 | .tup xs=>some xs
 | _=>none
@[simp] noncomputable def fG:D->Option (List D)
 | .tup xs=>some xs
 | .lst xs=>some xs
 | _=>none
noncomputable def ee:Nat->List D->List D
 | _,[]=>[]
 | n,x::r=>.tup [.int (n:Nat),x]::ee (n+1) r
def cF (a b:List D):List D:=List.zipWith (λx y=>.tup [x,y]) a b
def lI (f:En->Option R) (Z:En) (tg:Tg):List D->Option (List D)
 | []=>some []
 | x::r=>(de Z tg x).bind fun Z'=>(f Z').bind λy=>(lI f Z tg r).bind λys=>some (y.2::ys)
def tT (a b:Option (List D)):R->Option (List D)
 | (_,.bl true)=>a
 | (_,.bl false)=>b
 | _=>none
def nM (c f:En->Option R) (Z:En) (tg:Tg):List D->Option (List D)
 | []=>some []
 | x::r=>(de Z tg x).bind fun Z'=>(c Z').bind (tT ((f Z').bind λy=>(nM c f Z tg r).bind λys=>some (y.2::ys)) (nM c f Z tg r))
@[simp] def bF (Z:En) (nl:Nat) (ks:List Nat):En:=List.replicate nl none++ks.map λj=>ax Z j
@[simp] noncomputable def cj:R->Option D
 | (false,d)=>some d
 | (true,.lst ds)=>some (.lst ds)
 | _=>none
@[simp] def pk (Z:En) (c:C) (r:Option R):Option D:=match c with
 | .v i=>(ax Z i).bind cj
 | _=>r.map (·.2)
@[simp] noncomputable def ei:R->Option D
 | (false,d)=>some d
 | (true,.dct _ ks)=>some (.dct false ks)
 | _=>none
@[simp] def ag (Z:En) (c:C) (r:Option R):Option D:=match c with
 | .v i=>(ax Z i).bind ei
 | _=>r.map (·.2)
noncomputable def vQ (m:Str) (tb:List (Nat×Nat)):D->Option Nat
 | .obj kn _=>if kn.ns.all (λf=>f != m) then tb.lookup kn.c else none
 | _=>none
def qVn (tb:List (Nat×Bool)):D->Option R
 | .obj kn _=>(tb.lookup kn.c).map λb=>(false,.bl b)
 | _=>none
def uh:D->Option R
 | .lst xs=>if xs.length<=lim then some (true,.lst xs.reverse) else none
 | _=>none
def ud:D->D->Option R
 | .int a,.int b=>if -(2^62)<=a/\a<2^62/\-(2^62)<=b/\b<2^62/\(b - a).toNat<=lim then some (true,.lst ((List.range (b - a).toNat).map λi=>.int (a+(i:Nat)))) else none
 | _,_=>none
def qVt:D->Option R
 | .int i=>if i.natAbs<2^240 then some (false,.str (yE i)) else none
 | .str x=>if x.length<=lim then some (false,.str x) else none
 | _=>none
def qVy:R->Option R
 | (true,.lst xs)=>(g9 xs).map λbs=>(false,.int ((bs.countP id:Nat):Int))
 | _=>none
noncomputable def cU (j:Nat) (f:Str):D->Option R
 | .obj ns ds=>if ns.ns[j]?=some f then (ds[j]?).map (false,·) else none
 | _=>none
@[simp] noncomputable def jc:D->Option (Option Int)
 | .int i=>some (some i)
 | _=>none
@[simp] noncomputable def tP:D->Option R
 | .int i=>some (false,.int (-i))
 | _=>none
@[simp] def mq:D->D->Option R
 | .lst xs,.int i=>(gI xs i).map (false,·)
 | .tup xs,.int i=>(gI xs i).map (false,·)
 | _,_=>none
@[simp] def tJ (l h:Option Int):D->Option R
 | .lst xs=>some (true,.lst (gw xs l h))
 | .tup xs=>some (false,.tup (gw xs l h))
 | _=>none
@[simp] noncomputable def qv (k:Option R):R->Option R
 | (_,.bl true)=>k
 | (_,.bl false)=>some (false,.bl false)
 | _=>none
@[simp] noncomputable def DS (k:Option R):R->Option R
 | (_,.bl true)=>some (false,.bl true)
 | (_,.bl false)=>k
 | _=>none
@[simp] noncomputable def yI:R->Option R
 | (_,.bl c)=>some (false,.bl (!c))
 | _=>none
noncomputable def qVB (i:Int):Int:=if i=0 then 0 else ((i.natAbs.log2+1:Nat):Int)
@[simp] def qVC:D->Option R
 | .int i=>some (false,.int (qVB i))
 | _=>none
@[simp] def DZ (a b:Option R):R->Option R
 | (_,.bl true)=>a
 | (_,.bl false)=>b
 | _=>none
@[simp] noncomputable def jk:Option R->Option R
 | some (false,d)=>some (false,d)
 | _=>none
noncomputable def arD (xs zs:List D):Ar->Option D
 | .pos i=>xs[i]?
 | .kw i=>zs[i]?
 | .dft _ d=>some d
def aD (xs zs:List D):List Ar->Option (List D)
 | []=>some []
 | a::r=>(arD xs zs a).bind λx=>(aD xs zs r).bind λys=>some (x::ys)
section
variable (call:Nat->List D->Option R)
mutual
def aa (Z:En):C->Option R
 | .v i=>jk (ax Z i)
 | .k d=>some (false,d)
 | .bin o a b=>(pk Z a (aa Z a)).bind λx=>(pk Z b (aa Z b)).bind λy=>eH o x y
 | .neg a=>(pk Z a (aa Z a)).bind tP
 | .cmp o a b=>(pk Z a (aa Z a)).bind λx=>(pk Z b (aa Z b)).bind λy=>eI o x y
 | .isC n a d=>(pk Z a (aa Z a)).bind λx=>mw n x d
 | .and a b=>(aa Z a).bind (qv (aa Z b))
 | .or a b=>(aa Z a).bind (DS (aa Z b))
 | .not a=>(aa Z a).bind yI
 | .ix a b=>(pk Z a (aa Z a)).bind λx=>(pk Z b (aa Z b)).bind λy=>mq x y
 | .sl a lo hi=>(pk Z a (aa Z a)).bind λx=>(gh Z lo).bind λl=>(gh Z hi).bind λh=>tJ l h x
 | .tup as=>(bO Z as).bind λxs=>if xs.length<=lim then some (false,.tup xs) else none
 | .lst as=>(bO Z as).bind λxs=>if xs.length<=lim then some (true,.lst xs) else none
 | .call f as=>(gi Z as).bind λxs=>call f xs
 | .bi b as=>(bG Z as).bind λxs=>mz b xs
 | .isi a t=>(pk Z a (aa Z a)).bind (tG t)
 | .bitl a=>(pk Z a (aa Z a)).bind qVC
 | .ifx c a b=>(aa Z c).bind (DZ (aa Z a) (aa Z b))
 | .rev a=>(pk Z a (aa Z a)).bind qVc
 | .join a b=>(pk Z a (aa Z a)).bind λx=>(pk Z b (aa Z b)).bind λy=>qTz x y
 | .fstr as=>(bO Z as).bind λxs=>(uK xs).bind λts=>(zf Str.empty ts).map λz=>(false,.str z)
 | .chn o p a b c=>(pk Z a (aa Z a)).bind λx=>(pk Z b (aa Z b)).bind λy=>(eI o x y).bind (qv ((pk Z c (aa Z c)).bind λz=>eI p y z))
 | .callP f as ks pl=>(bO Z as).bind λxs=>(bO Z ks).bind λzs=>(aD xs zs pl).bind λds=>call f ds
 | .compS e nl ks tg src=>(pk Z src (aa Z src)).bind λx=>(bR x).bind λits=>(lI (fun Z'=>aa Z' e) (bF Z nl ks) tg its).bind λys=>some (true,.lst ys)
 | .compR e nl ks tg rs=>(bG Z rs).bind λx=>(d9 x).bind λits=>if its.length<=lim then (lI (fun Z'=>aa Z' e) (bF Z nl ks) tg its).bind λys=>some (true,.lst ys) else none
 | .compZ e nl ks tg a b=>(aa Z a).bind λx=>(aa Z b).bind λy=>(bR x.2).bind λxs=>(fG y.2).bind λys =>
   (lI (fun Z'=>aa Z' e) (bF Z nl ks) tg (cF xs ys)).bind λzs=>some (true,.lst zs)
 | .compE e nl ks tg a=>(aa Z a).bind λx=>(bR x.2).bind λxs=>(lI (fun Z'=>aa Z' e) (bF Z nl ks) tg (ee 0 xs)).bind λzs=>some (true,.lst zs)
 | .compF e c nl ks tg src=>(aa Z src).bind λx=>(bR x.2).bind λits=>(nM (fun Z'=>aa Z' c) (fun Z'=>aa Z' e) (bF Z nl ks) tg its).bind λys=>some (true,.lst ys)
 | .compG e c nl ks tg rs=>(bG Z rs).bind λx=>(d9 x).bind λits=>if its.length<=lim then (nM (fun Z'=>aa Z' c) (fun Z'=>aa Z' e) (bF Z nl ks) tg its).bind λys=>some (true,.lst ys) else none
 | .fld a j f=>(aa Z a).bind λx=>cU j f x.2
 | .mk kn as=>(bO Z as).bind λxs=>if xs.length=kn.ns.length then some (false,.obj kn xs) else none
 | .mc a m tb bs=>(aa Z a).bind λx=>(vQ m tb x.2).bind λf=>(bO Z bs).bind λys=>call f (x.2::ys)
 | .iso a tb=>(aa Z a).bind λx=>qVn tb x.2
 | .cntT a=>(aa Z a).bind qVy
 | .fmt a=>(pk Z a (aa Z a)).bind qVt
 | .revL a=>(pk Z a (aa Z a)).bind uh
 | .lrng a b=>(pk Z a (aa Z a)).bind λx=>(pk Z b (aa Z b)).bind λy=>ud x y
termination_by structural c=>c
def bO (Z:En):List C->Option (List D)
 | []=>some []
 | a::r=>(aa Z a).bind λx=>(bO Z r).bind λxs=>some (x.2::xs)
termination_by structural c=>c
def bG (Z:En):List C->Option (List D)
 | []=>some []
 | a::r=>(pk Z a (aa Z a)).bind λx=>(bG Z r).bind λxs=>some (x::xs)
termination_by structural c=>c
def gi (Z:En):List C->Option (List D)
 | []=>some []
 | a::r=>(ag Z a (aa Z a)).bind λx=>(gi Z r).bind λxs=>some (x::xs)
termination_by structural c=>c
def gh (Z:En):Option C->Option (Option Int)
 | none=>some none
 | some c=>(pk Z c (aa Z c)).bind jc
termination_by structural c=>c
end
inductive Ou where|nx (Z:En)|rt (r:R)|bk (Z:En)|ct (Z:En)
@[simp] def frz1 (Z:En) (i:Nat):En:=match ax Z i with|some (true,.lst ds)=>Z.set i (some (false,.lst ds))|_=>Z
@[simp] noncomputable def gz (keep:Bool) (r:R):R:=(keep&&r.1,r.2)
def jh (f:En->Option Ou) (tg:Tg):List D->En->Option Ou
 | [],Z=>some (.nx Z)
 | x::r,Z=>(de Z tg x).bind fun Z1=>(f Z1).bind λo=>match o with
   | .nx Z2=>jh f tg r Z2
   | .ct Z2=>jh f tg r Z2
   | .bk Z2=>some (.nx Z2)
   | .rt v=>some (.rt v)
@[simp] def yF (a b:Option Ou):R->Option Ou
 | (_,.bl true)=>a
 | (_,.bl false)=>b
 | _=>none
@[simp] def lL (Z:En) (i:Nat) (k e:D):Option Ou:=match ax Z i,k with
 | some (true,.lst xs),.int n=>(ixN xs.length n).bind λj=>some (.nx (Z.set i (some (true,.lst (xs.set j e)))))
 | some (true,.dct true ks),.int n=>match e with
  | .bl true=>if ks.length<lim then some (.nx (Z.set i (some (true,.dct true (if ks.any (· == n) then ks else ks++[n]))))) else none
  | _=>none
 | _,_=>none
@[simp] def iH (Z:En) (i:Nat) (e:D):Option Ou:=match ax Z i with
 | some (true,.lst xs)=>if xs.length<lim then some (.nx (Z.set i (some (true,.lst (xs++[e]))))) else none
 | _=>none
@[simp] noncomputable def yB:R->Option R
 | (false,d)=>some (false,d)
 | (true,.lst ds)=>some (true,.lst ds)
 | _=>none
@[simp] def gy (Z:En) (c:C) (r:Option R):Option R:=match c with
 | .v i=>(ax Z i).bind yB
 | _=>r
@[simp] noncomputable def uq (k:En->Option Ou):Ou->Option Ou
 | .nx Z=>k Z
 | .rt r=>some (.rt r)
 | .bk Z=>some (.bk Z)
 | .ct Z=>some (.ct Z)
@[simp] noncomputable def lC (k:En->Option Ou):Ou->Option Ou
 | .nx Z=>k Z
 | .ct Z=>k Z
 | .bk Z=>some (.nx Z)
 | .rt r=>some (.rt r)
@[simp] noncomputable def t9 (Z:En) (k:Option Ou):R->Option Ou
 | (_,.bl true)=>k
 | (_,.bl false)=>some (.nx Z)
 | _=>none
def fZ (c:En->Option R) (b:En->Option Ou):Nat->En->Option Ou
 | 0,_=>none
 | n+1,Z=>(c Z).bind (t9 Z ((b Z).bind (lC (fZ c b n))))
@[simp] def pS (Z:En) (i:Nat):R->Option Ou
 | (true,.lst ys)=>match ax Z i with
  | some (true,.lst xs)=>if xs.length+ys.length<=lim then some (.nx (Z.set i (some (true,.lst (xs++ys))))) else none
  | _=>none
 | (false,.tup ys)=>match ax Z i with
  | some (true,.lst xs)=>if xs.length+ys.length<=lim then some (.nx (Z.set i (some (true,.lst (xs++ys))))) else none
  | _=>none
 | _=>none
@[simp] def zc (Z:En) (tg:Tg):R->Option Ou
 | (false,d)=>(de Z tg d).map .nx
 | _=>none
@[simp] def qc (Z:En) (tg:Tg) (i:Nat):Option Ou:=match ax Z i with
 | some (true,.lst xs)=>(xs.getLast?).bind λd=>(de (Z.set i (some (true,.lst xs.dropLast))) tg d).map .nx
 | _=>none
@[simp] def zd (Z:En) (i:Nat) (y:D):Option Ou:=match ax Z i,y with
 | some (false,.int a),.int b=>some (.nx (Z.set i (some (false,.int (a+b)))))
 | _,_=>none
@[simp] def zG (Z:En) (i:Nat):Option Ou:=match ax Z i with
 | some (true,.lst xs)=>(xs.getLast?).bind λ_=>some (.nx (Z.set i (some (true,.lst xs.dropLast))))
 | _=>none
@[simp] noncomputable def ng:R->Option (List D)
 | (true,.lst xs)=>some xs
 | _=>none
@[simp] noncomputable def yD (Z:En) (i:Nat):R->Option Ou
 | (_,.lst ys)=>some (.nx (Z.set i (some (true,.lst ys))))
 | _=>none
def nA (Z:En) (j i:Nat) (k:Int):Option Ou:=match ax Z i with
 | some (true,.lst xs)=>(xs.getLast?).bind λd=>(mq d (.int k)).bind λr=>some (.nx ((Z.set i (some (true,.lst xs.dropLast))).set j (some (false,r.2))))
 | _=>none
noncomputable def qVd:Option Ou->Option Ou
 | some (.rt r)=>some (.rt r)
 | _=>none
def foK (a b:Option Ou):R->Option Ou
 | (_,.bl true)=>qVd a
 | (_,.bl false)=>b
 | _=>none
def uA (f:En->Option R) (g:En->Option Ou) (x:Nat):List D->En->Option Ou
 | [],Z=>some (.nx Z)
 | d::r,Z=>(f (Z.set x (some (false,d)))).bind (foK (g (Z.set x (some (false,d)))) (uA f g x r (Z.set x (some (false,d)))))
noncomputable def zi (i:Nat) (xs:List D):Ou->Option Ou
 | .nx Z=>some (.nx (Z.set i (some (true,.lst xs))))
 | .rt r=>some (.rt r)
 | _=>none
mutual
def cG (Z:En):S->Option Ou
 | .frz is=>some (.nx (is.foldl frz1 Z))
 | .set i keep e=>(aa call Z e).bind λr=>some (.nx (Z.set i (some (gz keep r))))
 | .aug i e=>(pk Z e (aa call Z e)).bind (zd Z i)
 | .popE i=>zG Z i
 | .dnew i=>some (.nx (Z.set i (some (true,.dct true []))))
 | .setIx i k e=>(aa call Z e).bind λx=>(pk Z k (aa call Z k)).bind λn=>lL Z i n x.2
 | .hnd i f as=>(ax Z i).bind λr=>(ng r).bind λxs=>(bO call Z as).bind λys=>(call (f+HX) (.lst xs::ys)).bind (yD Z i)
 | .popX j i k=>nA Z j i k
 | .forO i x c body=>(ax Z i).bind λr=>(ng r).bind λxs=>if i=x then none else (uA (fun Z'=>aa call Z' c) (fun Z'=>ae Z' body) x xs (Z.set i none)).bind (zi i xs)
 | .app i e=>(aa call Z e).bind λx=>iH Z i x.2
 | .ret e=>(gy Z e (aa call Z e)).bind λr=>some (.rt r)
 | .ite c a b=>(aa call Z c).bind (yF (ae Z a) (ae Z b))
 | .forS tg src body=>(aa call Z src).bind λx=>(bR x.2).bind λits=>jh (fun Z'=>ae Z' body) tg its Z
 | .forR tg rs body=>(bG call Z rs).bind λx=>(d9 x).bind λits=>jh (fun Z'=>ae Z' body) tg its Z
 | .forV tg rs body=>(bG call Z rs).bind λx=>(iA x).bind λits=>jh (fun Z'=>ae Z' body) tg its Z
 | .ext i e=>(aa call Z e).bind (pS Z i)
 | .asgT tg e=>(aa call Z e).bind (zc Z tg)
 | .pop tg i=>qc Z tg i
 | .whl c body=>fZ (fun Z'=>aa call Z' c) (fun Z'=>ae Z' body) fR Z
 | .brk=>some (.bk Z)
 | .cnt=>some (.ct Z)
 | .stk=>none
 | .forZ tg a b body=>(aa call Z a).bind λx=>(aa call Z b).bind λy=>(bR x.2).bind λxs=>(fG y.2).bind λys=>jh (fun Z'=>ae Z' body) tg (cF xs ys) Z
 | .forE tg a body=>(aa call Z a).bind λx=>(bR x.2).bind λxs=>jh (fun Z'=>ae Z' body) tg (ee 0 xs) Z
termination_by structural c=>c
def ae (Z:En):List S->Option Ou
 | []=>some (.nx Z)
 | a::r=>(cG Z a).bind (uq fun Z'=>ae Z' r)
termination_by structural c=>c
end
end
section
variable (call:Nat->List D->Option R) (Z:En)
def cL (e:C) (Z:En) (tg:Tg) (its:List D):Option (List D):=lI (fun Z'=>aa call Z' e) Z tg its
def jA (c e:C) (Z:En) (tg:Tg) (its:List D):Option (List D):=nM (fun Z'=>aa call Z' c) (fun Z'=>aa call Z' e) Z tg its
def bC (body:List S) (tg:Tg) (its:List D) (Z:En):Option Ou:=jh (fun Z'=>ae call Z' body) tg its Z
@[simp] theorem qTQ (i):aa call Z (.v i)=jk (ax Z i):=rfl
@[simp] theorem BK (o a b):aa call Z (.bin o a b)=(pk Z a (aa call Z a)).bind λx=>(pk Z b (aa call Z b)).bind λy=>eH o x y:=rfl
@[simp] theorem qOP (a):aa call Z (.neg a)=(pk Z a (aa call Z a)).bind tP:=rfl
@[simp] theorem uX (o a b):aa call Z (.cmp o a b)=(pk Z a (aa call Z a)).bind λx=>(pk Z b (aa call Z b)).bind λy=>eI o x y:=rfl
@[simp] theorem qOR (n a d):aa call Z (.isC n a d)=(pk Z a (aa call Z a)).bind λx=>mw n x d:=rfl
@[simp] theorem qOT (a b):aa call Z (.and a b)=(aa call Z a).bind (qv (aa call Z b)):=rfl
@[simp] theorem qRB (a b):aa call Z (.or a b)=(aa call Z a).bind (DS (aa call Z b)):=rfl
@[simp] theorem qOO (a):aa call Z (.not a)=(aa call Z a).bind yI:=rfl
@[simp] theorem zW (a b):aa call Z (.ix a b)=(pk Z a (aa call Z a)).bind λx=>(pk Z b (aa call Z b)).bind λy=>mq x y:=rfl
@[simp] theorem qRA (a lo hi):aa call Z (.sl a lo hi)=(pk Z a (aa call Z a)).bind λx=>(gh call Z lo).bind λl=>(gh call Z hi).bind λh=>tJ l h x:=rfl
@[simp] theorem qON (as):aa call Z (.tup as)=(bO call Z as).bind λxs=>if xs.length<=lim then some (false,.tup xs) else none:=rfl
@[simp] theorem qOQ (as):aa call Z (.lst as)=(bO call Z as).bind λxs=>if xs.length<=lim then some (true,.lst xs) else none:=rfl
@[simp] theorem Cg (f as):aa call Z (.call f as)=(gi call Z as).bind λxs=>call f xs:=rfl
@[simp] theorem eZ:gi call Z []=some []:=rfl
@[simp] theorem Ci (a r):gi call Z (a::r)=(ag Z a (aa call Z a)).bind λx=>(gi call Z r).bind λxs=>some (x::xs):=rfl
@[simp] theorem qTP (i e):cG call Z (.aug i e)=(pk Z e (aa call Z e)).bind (zd Z i):=rfl
@[simp] theorem qSw (i):cG call Z (.popE i)=zG Z i:=rfl
@[simp] theorem qSz (i):cG call Z (.dnew i)=some (.nx (Z.set i (some (true,.dct true [])))):=rfl
@[simp] theorem qRD (b as):aa call Z (.bi b as)=(bG call Z as).bind λxs=>mz b xs:=rfl
@[simp] theorem qOS (c a b):aa call Z (.ifx c a b)=(aa call Z c).bind (DZ (aa call Z a) (aa call Z b)):=rfl
@[simp] theorem qTR (o p a b c):aa call Z (.chn o p a b c)=(pk Z a (aa call Z a)).bind λx=>(pk Z b (aa call Z b)).bind λy=>(eI o x y).bind (qv ((pk Z c (aa call Z c)).bind λz=>eI p y z)):=rfl
@[simp] theorem qRC (f as ks pl):aa call Z (.callP f as ks pl)=(bO call Z as).bind λxs=>(bO call Z ks).bind λzs=>(aD xs zs pl).bind λds=>call f ds:=rfl
@[simp] theorem Di (e nl ks tg src):aa call Z (.compS e nl ks tg src)=(pk Z src (aa call Z src)).bind λx=>(bR x).bind λits=>(cL call e (bF Z nl ks) tg its).bind λys=>some (true,.lst ys):=rfl
@[simp] theorem qI0 (e nl ks tg rs):aa call Z (.compR e nl ks tg rs)=(bG call Z rs).bind λx=>(d9 x).bind λits=>if its.length<=lim then (cL call e (bF Z nl ks) tg its).bind λys=>some (true,.lst ys) else none:=rfl
@[simp] theorem qIZ (e nl ks tg a b):aa call Z (.compZ e nl ks tg a b)=(aa call Z a).bind λx=>(aa call Z b).bind λy=>(bR x.2).bind λxs=>(fG y.2).bind λys =>
   (cL call e (bF Z nl ks) tg (cF xs ys)).bind λzs=>some (true,.lst zs):=rfl
@[simp] theorem qI1 (e nl ks tg a):aa call Z (.compE e nl ks tg a)=(aa call Z a).bind λx=>(bR x.2).bind λxs=>(cL call e (bF Z nl ks) tg (ee 0 xs)).bind λzs=>some (true,.lst zs):=rfl
@[simp] theorem Dh (e c nl ks tg src):aa call Z (.compF e c nl ks tg src)=(aa call Z src).bind λx=>(bR x.2).bind λits=>(jA call c e (bF Z nl ks) tg its).bind λys=>some (true,.lst ys):=rfl
@[simp] theorem Bs (a j f):aa call Z (.fld a j f)=(aa call Z a).bind λx=>cU j f x.2:=rfl
@[simp] theorem zY (kn as):aa call Z (.mk kn as)=(bO call Z as).bind λxs=>if xs.length=kn.ns.length then some (false,.obj kn xs) else none:=rfl
@[simp] theorem zX (a m tb bs):aa call Z (.mc a m tb bs)=(aa call Z a).bind λx=>(vQ m tb x.2).bind λf=>(bO call Z bs).bind λys=>call f (x.2::ys):=rfl
@[simp] theorem qLl (a):aa call Z (.revL a)=(pk Z a (aa call Z a)).bind uh:=rfl
@[simp] theorem eh:bO call Z []=some []:=rfl
@[simp] theorem qLn (a r):bO call Z (a::r)=(aa call Z a).bind λx=>(bO call Z r).bind λxs=>some (x.2::xs):=rfl
@[simp] theorem lX:bG call Z []=some []:=rfl
@[simp] theorem qI5 (a r):bG call Z (a::r)=(pk Z a (aa call Z a)).bind λx=>(bG call Z r).bind λxs=>some (x::xs):=rfl
@[simp] theorem vj:gh call Z none=some none:=rfl
@[simp] theorem qLk (c):gh call Z (some c)=(pk Z c (aa call Z c)).bind jc:=rfl
@[simp] theorem Bx (i keep e):cG call Z (.set i keep e)=(aa call Z e).bind λr=>some (.nx (Z.set i (some (gz keep r)))):=rfl
@[simp] theorem qIS (i k e):cG call Z (.setIx i k e)=(aa call Z e).bind λx=>(pk Z k (aa call Z k)).bind λn=>lL Z i n x.2:=rfl
@[simp] theorem qTM (i f as):cG call Z (.hnd i f as)=(ax Z i).bind λr=>(ng r).bind λxs=>(bO call Z as).bind λys=>(call (f+HX) (.lst xs::ys)).bind (yD Z i):=rfl
@[simp] theorem Cp (j i k):cG call Z (.popX j i k)=nA Z j i k:=rfl
@[simp] theorem qSx (i x c body):cG call Z (.forO i x c body)=(ax Z i).bind λr=>(ng r).bind λxs=>if i=x then none else (uA (fun Z'=>aa call Z' c) (fun Z'=>ae call Z' body) x xs (Z.set i none)).bind (zi i xs):=rfl
@[simp] theorem Bt (i e):cG call Z (.app i e)=(aa call Z e).bind λx=>iH Z i x.2:=rfl
@[simp] theorem uY (e):cG call Z (.ret e)=(gy Z e (aa call Z e)).bind λr=>some (.rt r):=rfl
@[simp] theorem Bv (c a b):cG call Z (.ite c a b)=(aa call Z c).bind (yF (ae call Z a) (ae call Z b)):=rfl
@[simp] theorem Ck (tg src body):cG call Z (.forS tg src body)=(aa call Z src).bind λx=>(bR x.2).bind λits=>bC call body tg its Z:=rfl
@[simp] theorem Cj (tg rs body):cG call Z (.forR tg rs body)=(bG call Z rs).bind λx=>(d9 x).bind λits=>bC call body tg its Z:=rfl
@[simp] theorem Cn (tg rs body):cG call Z (.forV tg rs body)=(bG call Z rs).bind λx=>(iA x).bind λits=>bC call body tg its Z:=rfl
@[simp] theorem Bu (i e):cG call Z (.ext i e)=(aa call Z e).bind (pS Z i):=rfl
@[simp] theorem qSA (tg e):cG call Z (.asgT tg e)=(aa call Z e).bind (zc Z tg):=rfl
@[simp] theorem Bw (tg i):cG call Z (.pop tg i)=qc Z tg i:=rfl
@[simp] theorem By (c body):cG call Z (.whl c body)=fZ (fun Z'=>aa call Z' c) (fun Z'=>ae call Z' body) fR Z:=rfl
@[simp] theorem qTO:cG call Z .brk=some (.bk Z):=rfl
@[simp] theorem qTN:cG call Z .cnt=some (.ct Z):=rfl
@[simp] theorem Co (tg a b body):cG call Z (.forZ tg a b body)=(aa call Z a).bind λx=>(aa call Z b).bind λy=>(bR x.2).bind λxs=>(fG y.2).bind λys=>bC call body tg (cF xs ys) Z:=rfl
@[simp] theorem qSy (tg a body):cG call Z (.forE tg a body)=(aa call Z a).bind λx=>(bR x.2).bind λxs=>bC call body tg (ee 0 xs) Z:=rfl
@[simp] theorem eL (a r):ae call Z (a::r)=(cG call Z a).bind (uq fun Z'=>ae call Z' r):=rfl
theorem kz (body tg x r):bC call body tg (x::r) Z=(de Z tg x).bind fun Z1=>(ae call Z1 body).bind λo=>lC (bC call body tg r) o:=by
 show (de Z tg x).bind _=(de Z tg x).bind _
 congr
theorem qFJ (e tg x r):cL call e Z tg (x::r)=(de Z tg x).bind fun Z1=>(aa call Z1 e).bind λy=>(cL call e Z tg r).bind λys=>some (y.2::ys):=rfl
theorem qE6 (c e tg x r):jA call c e Z tg (x::r)=(de Z tg x).bind fun Z1=>(aa call Z1 c).bind (tT ((aa call Z1 e).bind λy=>(jA call c e Z tg r).bind λys=>some (y.2::ys)) (jA call c e Z tg r)):=rfl
theorem eN {α:Type}{e:C}{tg:Tg}(enc g:α->D):∀(l:List α),(∀x∈l,∃Z' b,de Z tg (enc x)=some Z'/\aa call Z' e=some (b,g x))->cL call e Z tg (l.map enc)=some (l.map g)
 | [],_=>rfl
 | x::r,h=>by
  obtain⟨Z',b,h1,h2⟩:=h x dz
  simp [qFJ,h1,h2,eN enc g r λy hy=>h y (dM _ hy)]
end
theorem vM {call:Nat->List D->Option R}{Z:En}{α:Type}{c e:C}{tg:Tg}(enc g:α->D) (p:α->Bool):∀(l:List α),(∀x∈l,∃Z',de Z tg (enc x)=some Z'/\aa call Z' c=some (false,.bl (p x))/\(p x=true->∃b,aa call Z' e=some (b,g x)))->jA call c e Z tg (l.map enc)=some ((l.filter p).map g)
 | [],_=>rfl
 | x::r,h=>by
  obtain⟨Z',h1,h2,h3⟩:=h x dz
  have ih:=vM enc g p r λy hy=>h y (dM _ hy)
  rw [gQ,qE6,h1,fj,h2,fj,ih]
  cases hp:p x with
  | false=>rw [List.filter_cons_of_neg (by simp [hp])];rfl
  | true =>
   obtain⟨b,hb⟩:=h3 hp
   rw [List.filter_cons_of_pos hp]
   show (aa call Z' e).bind _=_
   rw [hb]
   rfl
theorem vI {α:Type}(f:α->Int):∀l:List α,f7 (l.map λx=>.int (f x))=some (l.map f)
 | []=>rfl
 | x::r=>by simp [vI f r]
theorem rB {α:Type}(f:α->Bool):∀l:List α,g9 (l.map λx=>.bl (f x))=some (l.map f)
 | []=>rfl
 | x::r=>by simp [rB f r]
theorem qJa (xs:List D):∀(n i:Nat),(ee n xs)[i]?=xs[i]?.map λx=>.tup [.int ((n+i:Nat):Int),x]:=by
 induction xs with
 | nil=>intro n i;rfl
 | cons x r ih =>
  intro n i
  cases i with
  | zero=>rfl
  | succ i=>show (ee (n+1) r)[i]?=_;rw [ih,List.getElem?_cons_succ,show n+1+i=n+(i+1) by omega]
theorem vN (xs:List D):∀n,(ee n xs).length=xs.length:=by
 induction xs with
 | nil=>intro n;rfl
 | cons x r ih=>intro n;show (ee (n+1) r).length+1=_;rw [ih];rfl
theorem Dv {α:Type}(f:α->List Int):∀l:List α,lN (l.map λx=>.tup ((f x).map .int))=some (l.map f)
 | []=>rfl
 | x::r=>by simp only [gQ,lN,Dv f r,vI (λi=>i) (f x)];simp
structure Fd where
 np:Nat
 ns:Nat
 body:List S
@[simp] noncomputable def qVu:Ou->Option R
 | .nx _=>some (false,.non)
 | .rt r=>some r
 | _=>none
@[simp] def aQ:Bool->List D->En
 | _,[]=>[]
 | true,.dct _ _::r=>none::aQ true r
 | false,.dct m ks::r=>some (true,.dct m ks)::aQ true r
 | b,d::r=>some (false,d)::aQ b r
def lq (call:Nat->List D->Option R) (fd:Fd) (as:List D):Option R:=
 if as.length=fd.np then (ae call (aQ false as++List.replicate (fd.ns - fd.np) none) fd.body).bind qVu else none
@[simp] def qVv:Ou->Option R
 | .nx Z=>(ax Z 0).bind λr=>(ng r).map λxs=>(true,.lst xs)
 | _=>none
def qVb (call:Nat->List D->Option R) (fd:Fd):List D->Option R
 | .lst xs::as=>if as.length+1=fd.np then (ae call (some (true,.lst xs)::as.map (λd=>some (false,d))++List.replicate (fd.ns - fd.np) none) fd.body).bind qVv else none
 | _=>none
def aG (tab:List Fd):Nat->Nat->List D->Option R
 | 0,_,_=>none
 | n+1,f,as=>match tab[f]? with
  | some fd=>lq (aG tab n) fd as
  | none=>if HX<=f then (match tab[f - HX]? with|some fd=>qVb (aG tab n) fd as|none=>none) else none
theorem vh {tab:List Fd}{f:Nat}{fd:Fd}(h:tab[f]?=some fd) (n:Nat) (as:List D):aG tab (n+1) f as=lq (aG tab n) fd as:=by
 rw [aG,h]
end Dw
namespace Dw
open PySem
structure Uc where
 f:Str
 i:Nat
 np:Nat
 ks:List Str
 pl:List Ar
structure Mt where
 c:Str
 kn:Kn
 m:Str
 i:Nat
structure Gx where
 defs:List (Str×Nat)
 cons:List (Str×Int):=[]
 ucal:List Uc:=[]
 meth:List Mt:=[]
 flds:List (Str×Nat):=[]
 isa:List (Str×List (Nat×Bool)):=[]
noncomputable def zD (x:Str) (n:Nat):Option BI:=
 if x=Qa "any" then (if n=1 then some .any else none) else
 if x=Qa "sorted" then (if n=1 then some .sorted else none) else none
def tW (x:Str) (n:Nat):Option BI:=
 if x=Qa "len" then (if n=1 then some .len else none) else
 if x=Qa "min" then (if n=2∨n=1 then some .min else none) else
 if x=Qa "max" then (if n=2∨n=3∨n=1 then some .max else none) else
 if x=Qa "sum" then (if n=1 then some .sum else none) else
 if x=Qa "all" then (if n=1 then some .all else none) else
 if x=Qa "tuple" then (if n=1 then some .tuple else none) else
 if x=Qa "list" then (if n=1 then some .list else none) else
 if x=Qa "int" then (if n=1 then some .int else none) else zD x n
noncomputable def qp (x:Str):Option Ty:=
 if x=Qa "int" then some .int else
 if x=Qa "bool" then some .bool else
 if x=Qa "tuple" then some .tuple else
 if x=Qa "list" then some .list else
 if x=Qa "str" then some .str else none
noncomputable def zw:Operator->Option BOp
 | .Add=>some .add|.Sub=>some .sub|.Mult=>some .mul|.FloorDiv=>some .fdiv|.Mod=>some .mod|.Pow=>some .pow|.LShift=>some .shl|.RShift=>some .shr|.BitAnd=>some .band|.BitOr=>some .bor|.BitXor=>some .bxor|_=>none
noncomputable def zB:CmpOp->Option COp
 | .Eq=>some .eq|.NotEq=>some .ne|.Lt=>some .lt|.LtE=>some .le|.Gt=>some .gt|.GtE=>some .ge|.In=>some .isin|.NotIn=>some .notin|_=>none
def rT:Const->Option D
 | .int i=>some (.int i)|.bool b=>some (.bl b)|.none=>some .non|.str x=>some (.str x)|_=>none
noncomputable def cz (N:List Str) (x:Str):Option Nat:=N.findIdx? (· == x)
noncomputable def ly (sc:Scope) (x:Str):Bool:=sc.names.lookup x == some .local||sc.names.lookup x == some .cell||sc.names.lookup x == some .free
noncomputable def bD (sc:Scope) (x:Str):Bool:=sc.names.lookup x == some .globalImplicit
noncomputable def fN (x:Str):Bool:=x != Qa "__debug__"&&x != Qa "__classdict__"&&x != Qa "__name__"
def df (sc:Scope) (N:List Str) (x:Str):Option Nat:=if ly sc x&&fN x then cz N x else none
noncomputable def lh (sc:Scope) (x:Str):Bool:=sc.names.lookup x == some .cell||sc.names.lookup x == some .free
def jo (sc:Scope) (N:List Str) (x:Str):Option Nat:=if lh sc x then df sc N x else none
noncomputable def bB (sc:Scope):List Str:=(sc.names.filter λp=>p.2 == .local&&p.1 != Qa ".0").map (·.1)
noncomputable def bM (sc:Scope):List Str:=(sc.names.filter λp=>p.2 == .free).map (·.1)
def rn (sc:Scope):Bool:=sc.kind == .function&&sc.names.all (λp=>p.2 != .cell)&&decide ((sc.names.map (·.1)).Nodup)&&(bB sc++bM sc).all fN
noncomputable def eg {α β:Type}(f:α->Option β):List α->Option (List β)
 | []=>some []
 | a::r=>(f a).bind λx=>(eg f r).bind λxs=>some (x::xs)
def gX (sc:Scope) (N:List Str):Expr->Option Nat
 | .Name x _=>if sc.names.lookup x == some .local||sc.names.lookup x == some .cell then cz N x else none
 | _=>none
def eX (sc:Scope) (N:List Str):Expr->Option Tg
 | .Name x _=>if sc.names.lookup x == some .local||sc.names.lookup x == some .cell then (cz N x).map .one else none
 | .Tuple [.Name x _,.Name y _] _ _=>if (sc.names.lookup x == some .local||sc.names.lookup x == some .cell)&&(sc.names.lookup y == some .local||sc.names.lookup y == some .cell)&&x != y then
   (cz N x).bind λi=>(cz N y).bind λj=>some (.two i j) else none
 | _=>none
def gU (sc:Scope) (N:List Str) (e:Expr):Option Tg:=match eX sc N e with
 | some t=>some t
 | none=>match e with
  | .Tuple es _ _=>(eg (gX sc N) es).map .many
  | _=>none
inductive Sr where|seq (e:Expr)|rng (es:List Expr)|zip (a b:Expr)|rev (es:List Expr)|enm (a:Expr)
def jV (sc:Scope):Expr->Sr
 | .Call (.Name f p) as [] pos =>
  if bD sc f&&f == Qa "range"&&(as.length == 1||as.length == 2||as.length == 3) then .rng as else
  if bD sc f&&f == Qa "zip" then (match as with|[a,b]=>.zip a b|_=>.seq (.Call (.Name f p) as [] pos)) else
  if bD sc f&&f == Qa "reversed" then (match as with
   | [.Call (.Name h _) [a] [] _]=>if bD sc h&&h == Qa "range" then .rev [a] else .seq (.Call (.Name f p) as [] pos)
   | _=>.seq (.Call (.Name f p) as [] pos)) else
  if bD sc f&&f == Qa "enumerate" then (match as with|[a]=>.enm a|_=>.seq (.Call (.Name f p) as [] pos)) else .seq (.Call (.Name f p) as [] pos)
 | e=>.seq e
noncomputable def nC:Tg->Bool
 | .two _ _=>true
 | _=>false
variable (G:Gx)
noncomputable def uc (c:Str):Option Mt:=G.meth.find? λu=>u.c == c
noncomputable def pO (m:Str):List (Nat×Nat):=(G.meth.filter λu=>u.m == m).map λu=>(u.kn.c,u.i)
noncomputable def j6:Expr->Bool
 | .Name _ _=>true
 | .Attribute _ _ _=>true
 | .Subscript _ _ _=>true
 | _=>false
def uk (sc:Scope) (f:Str):List Expr->Option Expr
 | [.Call (.Name h _) [.Name x p] [] _]=>if f == Qa "list"&&h == Qa "reversed"&&bD sc h&&(G.defs.lookup h).isNone then some (.Name x p) else none
 | _=>none
def tM (sc:Scope) (f:Str):List Expr->Option (Expr×Expr)
 | [.Call (.Name h _) [a,b] [] _]=>if f == Qa "list"&&h == Qa "range"&&bD sc h&&(G.defs.lookup h).isNone then some (a,b) else none
 | _=>none
def kK (sc:Scope) (x:Str):Option C:=if bD sc x&&fN x then (G.cons.lookup x).map λi=>.k (.int i) else none
noncomputable def pT (op:CmpOp):Expr->Option (Bool×Const)
 | .Constant c _ _=>match op with|.Is=>some (false,c)|.IsNot=>some (true,c)|_=>none
 | _=>none
noncomputable def qd:Expr->Option (Option Expr×Option Expr)
 | .Slice lo hi none _=>some (lo,hi)
 | _=>none
mutual
def cE:Nat->Scope->List Str->Expr->Option C
 | 0,_,_,_=>none
 | n+1,sc,N,e=>match e with
  | .Name x _=>match df sc N x with|some i=>some (.v i)|none=>kK G sc x
  | .Constant c _ _=>(rT c).map .k
  | .BinOp a op b _=>(zw op).bind λo=>(cE n sc N a).bind λx=>(cE n sc N b).bind λy=>some (.bin o x y)
  | .UnaryOp .USub a _=>(cE n sc N a).map .neg
  | .UnaryOp .Not a _=>(cE n sc N a).map .not
  | .BoolOp .And es _=>if 2<=es.length then jU n sc N es else none
  | .BoolOp .Or es _=>if 2<=es.length then kJ n sc N es else none
  | .Compare a [op] [b] _=>(pT op b).elim ((zB op).bind λo=>(cE n sc N a).bind λx=>(cE n sc N b).bind λy=>some (.cmp o x y)) λq=>(rT q.2).bind λd=>(cE n sc N a).bind λx=>some (.isC q.1 x d)
  | .Subscript a b _=>(qd b).elim ((cE n sc N a).bind λx=>(cE n sc N b).bind λy=>some (.ix x y)) λq=>(cE n sc N a).bind λx=>(cO n sc N q.1).bind λl=>(cO n sc N q.2).bind λh=>some (.sl x l h)
  | .Tuple es _ _=>(eU n sc N es).map .tup
  | .List es _=>(eU n sc N es).map .lst
  | .Call (.Name f _) as [] _=>if bD sc f&&fN f then qC n sc N f as else none
  | .IfExp t a b _=>(cE n sc N t).bind λc=>(cE n sc N a).bind λx=>(cE n sc N b).bind λy=>some (.ifx c x y)
  | e=>cX n sc N e
def cX:Nat->Scope->List Str->Expr->Option C
 | 0,_,_,_=>none
 | n+1,sc,N,e=>match e with
  | .ListComp e [⟨tg,it,fs,0⟩] sc' _ =>
   if rn sc' then
    (eX sc' (bB sc'++bM sc') tg).bind λt=>(eg (jo sc N) (bM sc')).bind λks=>(cE n sc' (bB sc'++bM sc') e).bind λc =>
     match fs with
     | []=>match jV sc it with
       | .seq s=>(cE n sc N s).bind λx=>some (.compS c (bB sc').length ks t x)
       | .rng rs=>(eU n sc N rs).bind λxs=>some (.compR c (bB sc').length ks t xs)
       | .zip a b=>if nC t then (cE n sc N a).bind λx=>(cE n sc N b).bind λy=>some (.compZ c (bB sc').length ks t x y) else none
       | .rev _=>none
       | .enm a=>if nC t then (cE n sc N a).bind λx=>some (.compE c (bB sc').length ks t x) else none
     | [cd]=>(cE n sc' (bB sc'++bM sc') cd).bind λcc=>match jV sc it with
       | .seq s=>(cE n sc N s).bind λx=>some (.compF c cc (bB sc').length ks t x)
       | _=>none
     | _=>none
   else none
  | .Attribute a f _=>if j6 a then (G.flds.lookup f).bind λj=>(cE n sc N a).map λx=>.fld x j f else none
  | .Call (.Attribute a m p2) bs [] p3=>if j6 a&&(p2.endLine == p3.line)&&decide (bs.length<30) then (cE n sc N a).bind λx=>(eU n sc N bs).map λys=>.mc x m (pO G m) ys else none
  | _=>none
def qC:Nat->Scope->List Str->Str->List Expr->Option C
 | 0,_,_,_,_=>none
 | n+1,sc,N,f,as=>match G.defs.lookup f with
  | some i=>if as.isEmpty then none else (eU n sc N as).map (.call i)
  | none=>match uc G f with
   | some u=>(eU n sc N as).map (.mk u.kn)
   | none=>match f == Qa "isinstance",as with
   | true,[a,.Name t _]=>if bD sc t&&(G.defs.lookup t).isNone then (qp t).bind λty=>(cE n sc N a).bind λx=>some (.isi x ty) else none
   | false,as=>match uk G sc f as with
    | some a=>(cE n sc N a).map .revL
    | none=>match tM G sc f as with
     | some (a,b)=>(cE n sc N a).bind λx=>(cE n sc N b).bind λy=>some (.lrng x y)
     | none=>(tW f as.length).bind λb=>(eU n sc N as).map (.bi b)
   | _,_=>none
def eU:Nat->Scope->List Str->List Expr->Option (List C)
 | 0,_,_,_=>none
 | n+1,sc,N,es=>match es with
  | []=>some []
  | a::r=>(cE n sc N a).bind λx=>(eU n sc N r).bind λxs=>some (x::xs)
def cO:Nat->Scope->List Str->Option Expr->Option (Option C)
 | 0,_,_,_=>none
 | n+1,sc,N,o=>match o with
  | none=>some none
  | some e=>(cE n sc N e).map some
def jU:Nat->Scope->List Str->List Expr->Option C
 | 0,_,_,_=>none
 | n+1,sc,N,es=>match es with
  | [a]=>cE n sc N a
  | a::b::r=>(cE n sc N a).bind λx=>(jU n sc N (b::r)).bind λy=>some (.and x y)
  | []=>none
def kJ:Nat->Scope->List Str->List Expr->Option C
 | 0,_,_,_=>none
 | n+1,sc,N,es=>match es with
  | [a]=>cE n sc N a
  | a::b::r=>(cE n sc N a).bind λx=>(kJ n sc N (b::r)).bind λy=>some (.or x y)
  | []=>none
end
def iK:Nat->List Str->List Stmt->List Nat
 | 0,_,_=>[]
 | _+1,_,[]=>[]
 | n+1,N,st::r=>(match st with
  | .Assign [.Subscript (.Name x _) _ _] _ _=>(cz N x).toList
  | .Expr (.Call (.Attribute (.Name x _) m _) _ _ _) _=>if m == Qa "append"||m == Qa "extend"||m == Qa "pop" then (cz N x).toList else []
  | .Assign _ (.Call (.Attribute (.Name x _) m _) _ _ _) _=>if m == Qa "pop" then (cz N x).toList else []
  | .Assign _ (.Subscript (.Call (.Attribute (.Name x _) m _) _ _ _) _ _) _=>if m == Qa "pop" then (cz N x).toList else []
  | .Expr (.Call (.Name _ _) (.Name x _::_) _ _) _=>(cz N x).toList
  | .If _ a b _=>iK n N a++iK n N b
  | .For _ _ b _ _=>iK n N b
  | .While _ b _ _=>iK n N b
  | _=>[])++iK n N r
noncomputable def dg (c:C) (r:List Nat):List Nat:=match c with
 | .v _=>[]
 | _=>r
mutual
def aS:C->List Nat
 | .v i=>[i]
 | .k _=>[]
 | .bin _ a b=>dg a (aS a)++dg b (aS b)
 | .neg a=>dg a (aS a)
 | .cmp _ a b=>dg a (aS a)++dg b (aS b)
 | .isC _ a _=>dg a (aS a)
 | .and a b=>aS a++aS b
 | .or a b=>aS a++aS b
 | .not a=>aS a
 | .ix a b=>dg a (aS a)++dg b (aS b)
 | .sl a _ _=>dg a (aS a)
 | .tup as=>iG as
 | .lst as=>iG as
 | .call _ as=>iG as
 | .bi _ as=>lg as
 | .isi a _=>dg a (aS a)
 | .bitl a=>dg a (aS a)
 | .ifx c a b=>aS c++aS a++aS b
 | .rev a=>dg a (aS a)
 | .join a b=>dg a (aS a)++dg b (aS b)
 | .fstr as=>iG as
 | .callP _ as ks _=>iG as++iG ks
 | .chn _ _ a b c=>dg a (aS a)++dg b (aS b)++dg c (aS c)
 | .compS e nl ks _ s=>dg s (aS s)++(aS e).filterMap λj=>if nl<=j then ks[j - nl]? else none
 | .compR e nl ks _ rs=>lg rs++(aS e).filterMap λj=>if nl<=j then ks[j - nl]? else none
 | .compZ e nl ks _ a b=>aS a++aS b++(aS e).filterMap λj=>if nl<=j then ks[j - nl]? else none
 | .compE e nl ks _ a=>aS a++(aS e).filterMap λj=>if nl<=j then ks[j - nl]? else none
 | .compF e c nl ks _ a=>aS a++(aS e++aS c).filterMap λj=>if nl<=j then ks[j - nl]? else none
 | .compG e c nl ks _ rs=>lg rs++(aS e++aS c).filterMap λj=>if nl<=j then ks[j - nl]? else none
 | .fld a _ _=>aS a
 | .mk _ as=>iG as
 | .mc a _ _ bs=>aS a++iG bs
 | .iso a _=>aS a
 | .cntT a=>aS a
 | .fmt a=>dg a (aS a)
 | .revL a=>dg a (aS a)
 | .lrng a b=>dg a (aS a)++dg b (aS b)
termination_by structural c=>c
def iG:List C->List Nat
 | []=>[]
 | a::r=>aS a++iG r
termination_by structural c=>c
def lg:List C->List Nat
 | []=>[]
 | a::r=>dg a (aS a)++lg r
termination_by structural c=>c
end
noncomputable def f6 (mt:List Nat) (is:List Nat) (s:S):List S:=match is.filter (mt.contains ·) with
 | []=>[s]
 | js=>[.frz js,s]
def qz (n:Nat) (sc:Scope) (N:List Str) (mt:List Nat) (x:Str) (e:Expr):Option (List S):=
 if sc.names.lookup x == some .local||sc.names.lookup x == some .cell then (cz N x).bind λi=>if i == 0&&mt.contains i then none else (cE G n sc N e).bind λc=>some (f6 mt (aS c) (.set i (mt.contains i) c)) else none
noncomputable def qL:Expr->Option Str
 | .Name x _=>some x
 | _=>none
noncomputable def qw:Expr->Option (Str×Str×Pos)
 | .Attribute (.Name x _) m p2=>some (x,m,p2)
 | _=>none
def p8:Expr->Option (Str×Str×Pos×Pos)
 | .Call f [] [] p3=>(qw f).map λy=>(y.1,y.2.1,y.2.2,p3)
 | _=>none
def tQ:Expr->Option (Str×Str×Pos×Pos×Int)
 | .Subscript a (.Constant (.int k) _ _) _=>(p8 a).map λy=>(y.1,y.2.1,y.2.2.1,y.2.2.2,k)
 | _=>none
def D1 (n:Nat) (sc:Scope) (N:List Str) (mt:List Nat) (tg e:Expr):Option (List S):=match p8 e with
 | some (x,m,p2,p3)=>if m == Qa "pop"&&p2.endLine == p3.line then (gU sc N tg).bind λt=>(df sc N x).bind λi=>some [.pop t i] else (qL tg).bind λy=>qz G n sc N mt y e
 | none=>(qL tg).bind λx=>match tQ e with
  | some (l,m,p2,p3,k)=>if m == Qa "pop"&&p2.endLine == p3.line&&(sc.names.lookup x == some .local||sc.names.lookup x == some .cell) then (cz N x).bind λj=>(df sc N l).bind λi=>some [.popX j i k] else none
  | none=>qz G n sc N mt x e
mutual
def cS:Nat->Scope->List Str->List Nat->Stmt->Option (List S)
 | 0,_,_,_,_=>none
 | n+1,sc,N,mt,st=>match st with
  | .Assign [tg] e _=>D1 G n sc N mt tg e
  | .Expr (.Call f [e] [] p3) _=>match qw f with
   | some (x,m,p2)=>if m == Qa "append"&&p2.endLine == p3.line then (df sc N x).bind λi=>(cE G n sc N e).bind λc=>some (f6 mt (aS c) (.app i c)) else
    if m == Qa "extend"&&p2.endLine == p3.line then (df sc N x).bind λi=>(cE G n sc N e).bind λc=>some (f6 mt (aS c) (.ext i c)) else none
   | none=>none
  | .While t body [] _=>(cE G n sc N t).bind λc=>(gN n sc N mt body).bind λb=>some (f6 mt (aS c) (.whl c b))
  | .Return (some e) _=>(cE G n sc N e).bind λc=>some (f6 mt (dg c (aS c)) (.ret c))
  | .If t a b _=>(cE G n sc N t).bind λc=>(gN n sc N mt a).bind λx=>(gN n sc N mt b).bind λy=>some (f6 mt (aS c) (.ite c x y))
  | .For tg it body [] _=>(gU sc N tg).bind λt=>(gN n sc N mt body).bind λb=>match jV sc it with
   | .seq s=>(cE G n sc N s).bind λx=>some (f6 mt (aS x) (.forS t x b))
   | .rng rs=>(eU G n sc N rs).bind λxs=>some (f6 mt (lg xs) (.forR t xs b))
   | .zip a z=>if nC t then (cE G n sc N a).bind λx=>(cE G n sc N z).bind λy=>some (f6 mt (aS x++aS y) (.forZ t x y b)) else none
   | .rev rs=>(eU G n sc N rs).bind λxs=>some (f6 mt (lg xs) (.forV t xs b))
   | .enm _=>none
  | _=>none
def gN:Nat->Scope->List Str->List Nat->List Stmt->Option (List S)
 | 0,_,_,_,_=>none
 | n+1,sc,N,mt,st=>match st with
  | []=>some []
  | a::r=>(cS n sc N mt a).bind λx=>(gN n sc N mt r).bind λy=>some (x++y)
end
noncomputable def cK (sc:Scope):List Str:=(sc.names.filter λp=>p.2 == .local||p.2 == .cell).map (·.1)
end Dw
namespace L2
open PySem PySem.Spec PyProof.Rows
abbrev dQ:=Sum Int Str
noncomputable def zv:dQ->Value->Bool
 | .inl k,v=>Value.isInt k v
 | .inr x,v=>Value.isStrOf x v
noncomputable def qVm (w:World):dQ->Int
 | .inl k=>hashInt k
 | .inr x=>hashStr w x
theorem iP:∀{k:dQ}{v:Value},zv k v=true->(∃i t,k=Sum.inl i/\v=Value.int i t)∨(∃x t,k=Sum.inr x/\v=Value.str x t)
 | .inl i,v,h=>by
  obtain⟨t,e⟩:=Value.isInt_shape (k:=i) (v:=v) h
  exact .inl ⟨i,t,rfl,e⟩
 | .inr x,v,h=>by
  obtain⟨t,e⟩:=Value.isStrOf_shape (x:=x) (v:=v) h
  exact .inr ⟨x,t,rfl,e⟩
theorem qRd (a b:Int):decide ((Sum.inl a:dQ)=Sum.inl b)=(a == b):=by
 by_cases e:a=b
 ·subst e;simp
 ·have h:¬(Sum.inl a:dQ)=Sum.inl b:=λq=>e (Sum.inl.inj q)
  rw [Qj h]
  exact (beq_eq_false_iff_ne.mpr e).symm
theorem qRa (a b:Str):decide ((Sum.inr a:dQ)=Sum.inr b)=decide (a=b):=by
 by_cases e:a=b
 ·subst e;simp
 ·have h:¬(Sum.inr a:dQ)=Sum.inr b:=λq=>e (Sum.inr.inj q)
  rw [Qj h,Qj e]
theorem qRc (a:Int) (b:Str):decide ((Sum.inl a:dQ)=Sum.inr b)=false:=Qj (λq=>nomatch q)
theorem qRb (a:Str) (b:Int):decide ((Sum.inr a:dQ)=Sum.inl b)=false:=Qj (λq=>nomatch q)
def Bh (prog:Program) (w:World):PySem.KeyKind prog w dQ where
 is:=zv
 hash:=qVm w
 inj:=λv a b ha hb=>by
  rcases iP ha with ⟨i,t,rfl,rfl⟩|⟨x,t,rfl,rfl⟩
  ·rcases iP hb with ⟨j,u,rfl,e⟩|⟨y,u,rfl,e⟩
   ·injection e with e1 _;rw [e1]
   ·exact nomatch e
  ·rcases iP hb with ⟨j,u,rfl,e⟩|⟨y,u,rfl,e⟩
   ·exact nomatch e
   ·injection e with e1 _;rw [e1]
 byValue:=λk v h=>by
  rcases iP h with ⟨i,t,rfl,rfl⟩|⟨x,t,rfl,rfl⟩<;>rfl
 pyHash:=λhv h=>by
  rcases iP hv with ⟨i,t,rfl,rfl⟩|⟨x,t,rfl,rfl⟩
  ·exact wpAny_pyHash_int h
  ·exact wpAny_pyHash_str h
 eqBool:=λhu hv h=>by
  rcases iP hu with ⟨i,t,rfl,rfl⟩|⟨x,t,rfl,rfl⟩
  ·rcases iP hv with ⟨j,u,rfl,rfl⟩|⟨y,u,rfl,rfl⟩
   ·rw [qRd] at h;exact wpAny_eqBool_int h
   ·rw [qRc] at h;exact SeqAt.EqAt.int_str i t y u _ _ _ _ h
  ·rcases iP hv with ⟨j,u,rfl,rfl⟩|⟨y,u,rfl,rfl⟩
   ·rw [qRb] at h;exact SeqAt.EqAt.str_int x t j u _ _ _ _ h
   ·rw [qRa] at h;exact wpAny_eqBool_str h
 «strs»:=λk x t v h=>by
  rcases iP h with ⟨i,u,rfl,e⟩|⟨y,u,rfl,e⟩
  ·exact nomatch e
  ·injection e with e1 _
   subst e1
   cases v<;>rfl
end L2
namespace L2
open PySem PySem.Spec PyProof.Rows
inductive V where
 | non|bl (b:Bool)|int (i:Int)|str (x:Str)|byt (b:Array UInt8)|flt (b:UInt64)|ref (a:Addr)|ty (n:String)
 deriving DecidableEq
def RelV:V->Value->Prop
 | .non,u=>u=Value.none
 | .bl b,u=>u=Value.bool b
 | .int i,u=>∃t,u=Value.int i t
 | .str x,u=>∃t,u=Value.str x t
 | .byt b,u=>∃t,u=Value.bytes b t
 | .flt b,u=>∃t,u=Value.float b t
 | .ref a,u=>u=Value.ref a
 | .ty n,u=>u=Value.type n
abbrev Vals:List V->List Value->Prop:=Paired RelV
theorem Vals.length {xs:List V}{us:List Value}(r:Vals xs us):xs.length=us.length:=Paired.length r
theorem Vals.get:∀{xs:List V}{us:List Value}{i:Nat}{x:V},Vals xs us->xs[i]?=some x->∃u,us[i]?=some u/\RelV x u
 | _,_,_,_,.nil,e=>by simp at e
 | _,_,0,_,.cons r _,e=>by simp at e;subst e;exact⟨_,rfl,r⟩
 | _,_,i+1,x,.cons _ t,e=>by
  obtain⟨u,h1,h2⟩:=Vals.get (i:=i) (x:=x) t (by simpa using e)
  exact⟨u,by simpa using h1,h2⟩
theorem Vals.append:∀{xs ys:List V}{us ws:List Value},Vals xs us->Vals ys ws->Vals (xs++ys) (us++ws)
 | _,_,_,_,.nil,s=>s
 | _,_,_,_,.cons r t,s=>.cons r (Vals.append t s)
theorem Vals.take:∀{xs:List V}{us:List Value}(n:Nat),Vals xs us->Vals (xs.take n) (us.take n)
 | _,_,0,_=>.nil
 | _,_,_+1,.nil=>.nil
 | _,_,n+1,.cons r t=>.cons r (Vals.take n t)
theorem Vals.drop:∀{xs:List V}{us:List Value}(n:Nat),Vals xs us->Vals (xs.drop n) (us.drop n)
 | _,_,0,r=>r
 | _,_,_+1,.nil=>.nil
 | _,_,n+1,.cons _ t=>Vals.drop n t
def RelO:Option V->Option Value->Prop
 | some v,some u=>RelV v u
 | none,none=>True
 | _,_=>False
def KV {κ:Type}:List (κ×V)->List (κ×Value)->Prop:=Paired λ(p:κ×V) (q:κ×Value)=>p.1=q.1/\RelV p.2 q.2
noncomputable def kV:dQ->V
 | .inl i=>.int i
 | .inr x=>.str x
inductive HO where
  | lst (xs:List V)
  | tup (xs:List V)
  | dK (kvs:List (dQ×V))|dT (kvs:List (List dQ×V))
  | set (S:Int->Bool) (n:Nat)
  | ins (C dx:Addr) (fs:List (Str×V))
  | own (x:Addr)
  | xd (fs:List (Str×V))
  | met (f x:Addr)
  | rng (lo hi:Int)
  | frz (o:Obj) (u:HO)
  | tbl (ps:Array Value)
  | ext (φ:Heap->Prop)
abbrev Hp:=Addr->Option HO
def aA (H:Hp) (a:Addr) (o:HO):Hp:=λb=>if b=a then some o else H b
theorem ef {H:Hp}{a:Addr}{o:HO}:aA H a o a=some o:=by unfold aA;rw [Ql rfl]
theorem aX {H:Hp}{a b:Addr}{o:HO}(h:b≠a):aA H a o b=H b:=by unfold aA;rw [Qm h]
theorem BR {H:Hp}{a:Addr}{o u:HO}:aA (aA H a o) a u=aA H a u:=by
 funext b;unfold aA;split<;>rfl
theorem fx {H:Hp}{a b:Addr}{o:HO}(h:H a=some o) (h':H b=none):a≠b:=by
 intro e;subst e;rw [h] at h';cases h'
section
variable (P:Program) (w:World)
def ObjOk (H:Hp) (h:Heap) (a:Addr):HO->Prop
 | .lst xs=>xs.length<=sizeLine/\∃(its:List Value) (n:Nat),Vals xs its/\h.get? a=some { cls:=.type "list",data:=.seq its.toArray n }
 | .tup xs=>xs.length<=sizeLine/\∃its:List Value,Vals xs its/\IsTup h a its.toArray
 | .dK kvs=>kvs.length<=sizeLine/\(a == sysModules)=false/\∃vs,KV kvs vs/\h.DictOf (Bh P w) a vs
 | .dT kvs=>kvs.length<=sizeLine/\(a == sysModules)=false/\∃xs:List (List dQ×Addr×Value),
   Paired (λ(p:List dQ×V) (q:List dQ×Addr×Value)=>p.1=q.1/\H q.2.1=some (.tup (p.1.map kV))/\RelV p.2 q.2.2) kvs xs /\
   ∃o es ep,h.get? a=some o/\o.ExactDict/\o.data=.dict es ep/\es.toList=xs.map (entryOfKey (tupleKind (Bh P w)))/\(xs.map (·.1)).Nodup
 | .set S n=>h.SetOf (intKind P w) a S n
 | .ins C dx fs=>H dx=some (.own a)/\fs.length<=1000/\dx≠a/\h.get? a=some (PySem.W.instObj C dx) /\
   ∃mA,h.Ns1 dx mA/\(∀f,RelO (fs.lookup f) (mA f))/\PySem.Within mA (fs.map (·.1))
 | .own _=>∃o,h.get? a=some o
 | .xd fs=>∃mA,h.Ns1 a mA/\∀f,RelO (fs.lookup f) (mA f)
 | .rng lo hi=>∃t u v,h.get? a=some { cls:=.type "range",data:=.fields #[.int lo t,.int hi u,.int 1 v] }
 | .frz o u=>h.get? a=some o/\ObjOk H h a u
 | .tbl ps=>h.get? a=some { cls:=.none,data:=.fields ps }
 | .met f x=>h.get? a=some (PySem.W.methodObj (.ref f) (.ref x))
 | .ext φ=>φ h/\(∃o,h.get? a=some o)/\∀h1 h2:Heap,φ h1->(∀o,h1.get? a=some o->h2.get? a=some o)->φ h2
def HOk (H:Hp) (h:Heap):Prop:=∀a o,H a=some o->ObjOk P w H h a o
end
section
variable {P:Program}{w:World}{H H':Hp}{h h':Heap}{a:Addr}{o:HO}
theorem ObjOk.lt (x:ObjOk P w H h a o):a<h.objs.size:=by
 cases o with
 | lst xs=>obtain⟨_,_,_,_,e⟩:=x;exact Qi e
 | tup xs=>obtain⟨_,_,_,p⟩:=x;exact p.lt
 | dK kvs=>obtain⟨_,_,_,_,o,_,_,e,_⟩:=x;exact Qi e
 | dT kvs=>obtain⟨_,_,_,_,o,_,_,e,_⟩:=x;exact Qi e
 | set S n=>obtain⟨o,_,_,_,e,_⟩:=x;exact Qi e
 | ins C dx fs=>obtain⟨_,_,_,e,_⟩:=x;exact Qi e
 | own y=>obtain⟨_,e⟩:=x;exact Qi e
 | xd fs=>obtain⟨_,⟨_,_,_,e,_⟩,_⟩:=x;exact Qi e
 | rng lo hi=>obtain⟨_,_,_,e⟩:=x;exact Qi e
 | frz ob u=>obtain⟨e,_⟩:=x;exact Qi e
 | tbl ps=>exact Qi (show h.get? a=some _ from x)
 | met f y=>exact Qi (show h.get? a=some _ from x)
 | ext φ=>obtain⟨_,⟨_,e⟩,_⟩:=x;exact Qi e
theorem Paired.mapP {α β:Type}{F G:α->β->Prop}:∀{l₁:List α}{l₂:List β},Paired F l₁ l₂->(∀a b,F a b->G a b)->Paired G l₁ l₂
 | _,_,.nil,_=>.nil
 | _,_,.cons r t,f=>.cons (f _ _ r) (Paired.mapP t f)
theorem ObjOk.stay (x:ObjOk P w H h a o) (k:∀b u,(b=a∨H b=some (.own a))->h.get? b=some u->h'.get? b=some u)
  (ho:∀b,H b=some (.own a)->H' b=some (.own a)) (ht:∀b xs,H b=some (.tup xs)->H' b=some (.tup xs)):ObjOk P w H' h' a o:=by
 induction o with
 | lst xs=>obtain⟨z,its,n,r,e⟩:=x;exact⟨z,its,n,r,k _ _ (.inl rfl) e⟩
 | tup xs=>obtain⟨z,its,r,ob,e,c⟩:=x;exact⟨z,its,r,ob,k _ _ (.inl rfl) e,c⟩
 | dK kvs=>obtain⟨z,y,vs,r,ob,es,ep,e,c⟩:=x;exact⟨z,y,vs,r,ob,es,ep,k _ _ (.inl rfl) e,c⟩
 | dT kvs =>
  obtain⟨z,y,xs,r,ob,es,ep,e,c⟩:=x
  exact⟨z,y,xs,Paired.mapP r λp q z=>⟨z.1,ht _ _ z.2.1,z.2.2⟩,ob,es,ep,k _ _ (.inl rfl) e,c⟩
 | set S n=>obtain⟨ob,es,ep,t,e,c⟩:=x;exact⟨ob,es,ep,t,k _ _ (.inl rfl) e,c⟩
 | ins C dx fs =>
  obtain⟨d,z,ne,e,mA,⟨od,es,ep,e2,c⟩,r⟩:=x
  exact⟨ho _ d,z,ne,k _ _ (.inl rfl) e,mA,⟨od,es,ep,k _ _ (.inr d) e2,c⟩,r⟩
 | own y=>obtain⟨ob,e⟩:=x;exact⟨ob,k _ _ (.inl rfl) e⟩
 | xd fs=>obtain⟨mA,⟨od,es,ep,e,c⟩,r⟩:=x;exact⟨mA,⟨od,es,ep,k _ _ (.inl rfl) e,c⟩,r⟩
 | rng lo hi=>obtain⟨t,u,v,e⟩:=x;exact⟨t,u,v,k _ _ (.inl rfl) e⟩
 | frz ob u ih=>obtain⟨e,q⟩:=x;exact⟨k _ _ (.inl rfl) e,ih q⟩
 | tbl ps =>
  have e:h.get? a=some { cls:=.none,data:=.fields ps }:=x
  show h'.get? a=some { cls:=.none,data:=.fields ps }
  exact k a _ (.inl rfl) e
 | met f y =>
  have e:h.get? a=some (PySem.W.methodObj (.ref f) (.ref y)):=x
  show h'.get? a=some (PySem.W.methodObj (.ref f) (.ref y))
  exact k a _ (.inl rfl) e
 | ext φ=>obtain⟨p,⟨o,e⟩,st⟩:=x;exact⟨st _ _ p λo q=>k _ _ (.inl rfl) q,⟨o,k _ _ (.inl rfl) e⟩,st⟩
theorem HOk.lt (x:HOk P w H h) (e:H a=some o):a<h.objs.size:=(x a o e).lt
theorem HOk.fresh (x:HOk P w H h) (e:h.objs.size<=a):H a=none:=by
 cases q:H a with
 | none=>rfl
 | some u=>exact Qn (dy (x.lt q) e) (fX _)
theorem HOk.kept (x:HOk P w H h) (k:∀b u,h.get? b=some u->h'.get? b=some u):HOk P w H h':=λa o e =>
 (x a o e).stay (λb u _ q=>k b u q) (λ_ q=>q) λ_ _ q=>q
theorem HOk.laid (x:HOk P w H h) (k:∀b u,h.get? b=some u->h'.get? b=some u) (hp:h.objs.size<=a) (new:ObjOk P w (aA H a o) h' a o):HOk P w (aA H a o) h':=λb u e=>by
 have hn:=x.fresh hp
 by_cases hb:b=a
 ·subst hb;rw [ef] at e;cases e;exact new
 ·rw [aX hb] at e
  exact (x b u e).stay (λc v _ q=>k c v q) (λc q=>by rw [aX (fx q hn)];exact q) λc xs q=>by rw [aX (fx q hn)];exact q
end
def Rd (H:Hp) (a:Addr) (u:HO):Prop:=H a=some u∨∃o,H a=some (.frz o u)
theorem Rd.ok {P:Program}{w:World}{H:Hp}{h:Heap}{a:Addr}{u:HO}(r:Rd H a u) (x:HOk P w H h):ObjOk P w H h a u:=by
 rcases r with r|⟨o,r⟩
 ·exact x a u r
 ·obtain⟨_,q⟩:=x a _ r
  exact q
def rY:Option HO->Prop
 | some (.lst _)=>True
 | some (.dK _)=>True
 | some (.dT _)=>True
 | some (.set _ _)=>True
 | some (.ins _ _ _)=>True
 | some (.ext _)=>True
 | _=>False
section
variable {P:Program}{w:World}{H:Hp}{h h':Heap}{x e:Addr}{o':HO}
theorem HOk.write (ok:HOk P w H h) (mu:rY (H x)) (he:e=x∨H e=some (.own x)) (k:∀b u,b≠e->h.get? b=some u->h'.get? b=some u) (heo:∃u,h'.get? e=some u)
  (new:ObjOk P w (aA H x o') h' x o'):HOk P w (aA H x o') h':=λb u q=>by
 have nown:∀c y,H c=some (.own y)->c≠x:=λc y r z=>by subst z;rw [r] at mu;exact mu
 have ntup:∀c xs,H c=some (.tup xs)->c≠x:=λc xs r z=>by subst z;rw [r] at mu;exact mu
 by_cases hb:b=x
 ·subst hb;rw [ef] at q;cases q;exact new
 ·rw [aX hb] at q
  by_cases hbe:b=e
  ·have q':H b=some (.own x):=by
    rcases he with z|z
    ·exact Qn (hbe.trans z) hb
    ·rw [hbe];exact z
   rw [q] at q';cases q'
   obtain⟨v,hv⟩:=heo
   exact⟨v,by rw [hbe];exact hv⟩
  ·refine (ok b u q).stay (λc v hc r=>k c v ?_ r) (λc r=>by rw [aX (nown c b r)];exact r) λc xs r=>by rw [aX (ntup c xs r)];exact r
   rcases hc with rfl|hc
   ·exact hbe
   ·rintro rfl
    rcases he with z|z
    ·exact nown c b hc z
    ·rw [hc] at z;cases z;exact hb rfl
end
structure Un (fs ex:List Addr) (H H':Hp) (h h':Heap):Prop where
 keep:∀b o,h.get? b=some o->H b=none->b∉fs->b∉ex->h'.get? b=some o
 slot:∀b o,h.get? b=some o->H b=none->b∈fs->b∉ex->∃sl,h'.get? b=some { o with slots:=sl }
 free:∀b o,h.get? b=some o->H b=none->b∉ex->H' b=none
 there:∀b o,h.get? b=some o->b∉ex->∃o',h'.get? b=some o'
 tups:∀b xs,H b=some (.tup xs)->H' b=some (.tup xs)
 frzs:∀b o u,H b=some (.frz o u)->H' b=some (.frz o u)
 tbls:∀b ps,H b=some (.tbl ps)->∃more,H' b=some (.tbl (ps++more))
section
variable {fs fs' ex ex':List Addr}{H H1 H2:Hp}{h h1 h2 h':Heap}{a x e:Addr}{o:HO}
theorem Un.any (u:Un fs ex H H1 h h1) {b:Addr}{ob:Obj}(q:h.get? b=some ob) (n:H b=none) (hx:b∉ex):∃sl,h1.get? b=some { ob with slots:=sl }:=by
 by_cases hb:b∈fs
 ·exact u.slot b ob q n hb hx
 ·exact⟨ob.slots,u.keep b ob q n hb hx⟩
theorem Un.kept (k:∀b u,h.get? b=some u->h'.get? b=some u):Un fs ex H H h h':=
 ⟨λb ob q _ _ _=>k b ob q,λb ob q _ _ _=>⟨ob.slots,k b ob q⟩,λ_ _ _ n _=>n,λb ob q _=>⟨ob,k b ob q⟩,λ_ _ q=>q,λ_ _ _ q=>q,λ_ ps q=>⟨#[],by rw [q];simp⟩⟩
theorem Un.refl:Un fs ex H H h h:=Un.kept λ_ _ q=>q
theorem Un.laid (k:∀b u,h.get? b=some u->h'.get? b=some u) (hp:h.objs.size<=a) (hn:H a=none):Un fs ex H (aA H a o) h h' where
 keep:=λb u q _ _ _=>k b u q
 slot:=λb u q _ _ _=>⟨u.slots,k b u q⟩
 free:=λb u q n _=>by rw [aX (cD (dy (Qi q) hp))];exact n
 there:=λb u q _=>⟨u,k b u q⟩
 tups:=λb xs q=>by rw [aX (fx q hn)];exact q
 frzs:=λb u xs q=>by rw [aX (fx q hn)];exact q
 tbls:=λb ps q=>⟨#[],by rw [aX (fx q hn),q];simp⟩
theorem Un.write (mu:rY (H x)) (he:e=x∨H e=some (.own x)) (k:∀b u,b≠e->h.get? b=some u->h'.get? b=some u) (heo:∃u,h'.get? e=some u):Un fs ex H (aA H x o) h h':=by
 have hx:∀b,H b=none->b≠x:=λb n z=>by subst z;rw [n] at mu;exact mu
 have hb:∀b,H b=none->b≠e:=λb n z=>by
  subst z
  rcases he with r|r
  ·exact hx b n r
  ·rw [n] at r;cases r
 have hm:∀b u,H b=some u->¬rY (some u)->b≠x:=λb u q nm z=>by subst z;rw [q] at mu;exact nm mu
 refine⟨λb u q n _ _=>k b u (hb b n) q,λb u q n _ _=>⟨u.slots,k b u (hb b n) q⟩,λb u q n _=>by rw [aX (hx b n)];exact n,λb u q _=>?_,
  λb xs q=>by rw [aX (hm b _ q λz=>z)];exact q,λb u xs q=>by rw [aX (hm b _ q λz=>z)];exact q,λb ps q=>⟨#[],by rw [aX (hm b _ q λz=>z),q];simp⟩⟩
 by_cases hbe:b=e
 ·subst hbe;exact heo
 ·exact⟨u,k b u hbe q⟩
end
noncomputable def pN (h:Heap) (H:Hp):List Addr:=(List.range h.objs.size).filter λa=>(H a).isSome
def iD (h:Heap) (H:Hp):Heap:=PySem.W.hideAll h (pN h H)
theorem qIJ (h:Heap) (H:Hp):(iD h H).objs.size=h.objs.size:=PySem.W.hideAll_size _ _
theorem qLf {h:Heap}{H:Hp}{b:Addr}{o:Obj}(e:h.get? b=some o) (n:H b=none):(iD h H).get? b=some o:=
 PySem.W.hideAll_get _ e λhm=>by
  have q:(H b).isSome=true:=(yaQ.mp hm).2
  rw [n] at q;simp at q
theorem qOo {h:Heap}{H:Hp}{b:Addr}{o:Obj}(e:(iD h H).get? b=some o):h.get? b=some o/\H b=none:=by
 have e':h.get? b=some o:=PySem.W.of_hideAll (pN h H) e
 refine⟨e',?_⟩
 cases q:H b with
 | none=>rfl
 | some x =>
  have hm:b∈pN h H:=yaQ.mpr ⟨List.mem_range.mpr (Qi e'),by simp [q]⟩
  have z:(iD h H).get? b=none:=PySem.W.hideAll_none (pN h H) hm
  rw [z] at e;cases e
noncomputable def qPe (g h:Heap) (L:Addr):List (Addr×Obj):=(List.range h.objs.size).filterMap λa=>if a=L∨(g.get? a).isSome=true then none else (h.get? a).map λo=>(a,o)
def rest (g h:Heap) (L d:Addr):List (Addr×Obj):=(qPe g h L).filter λp=>decide (p.1≠d)
end L2
namespace L2
open PySem PySem.Spec PyProof.Rows
structure Mod (K:Qb) (mg:Str->Option Value) (base:Heap):Prop where
 kin:K.In base
 glob:base.Ns mainGlobals mg
 blt:∃mb,base.Ns builtinsNs mb/\∀x:Str,x≠"__name__"->mb x=Qo x
 nolimit:base.NoLimit
structure Cx where
 prog:Program
 w:World
 K:Qb
 mg:Str->Option Value
 base:Heap
 A:Around
 N:List Str
 s₀:Shared
 H₀:Hp
 env:Env
 outer:List Env
 stack:List Env
 ex:List Addr
 fn:Str->Bool
 calm:Bool
 pn:List (Addr×Obj)
 xe:Value->Shared->Prop
noncomputable def gJ (l:List Env):List Addr:=l.filterMap (·.frame)
abbrev Cx.fs (X:Cx):List Addr:=gJ X.outer
def mL (sc:Scope) (x:Str):Prop:=sc.names.lookup x=some .local∨sc.names.lookup x=some .cell∨sc.names.lookup x=some .free
def mN (sc:Scope) (x:Str):Prop:=sc.names.lookup x=some .local∨sc.names.lookup x=some .cell
def qVE (env:Env) (h:Heap) (m:Str->Option Value) (x:Str) (u:Value):Prop:=
 (env.kindOf x=some .local/\m x=some u)∨((env.kindOf x=some .cell∨env.kindOf x=some .free)/\∃c,env.cells.lookup x=some c/\h.IsCell c (some u))
structure Cx.Ok (X:Cx):Prop where
 mod:Mod X.K X.mg X.base
 kind:X.env.scope.kind=.function
 glob:X.env.globals=mainGlobals
 blt:X.env.builtins=builtinsNs
 above:X.s₀.heap.objs.size<=X.env.locals
 inj:∀x y c,X.env.cells.lookup x=some c->X.env.cells.lookup y=some c->x=y
 has:∀x,(X.env.kindOf x=some .cell∨X.env.kindOf x=some .free)->∃c,X.env.cells.lookup x=some c
 cab:∀x c,X.fn x=true->X.env.cells.lookup x=some c->X.s₀.heap.objs.size<=c
 hd:X.calm=true->X.A.handled=none
 frames:X.A.frames=some X.stack
 stk:X.stack=X.outer∨(X.stack=X.env::X.outer/\X.env.frame=some X.env.locals)
 exf:∀b∈X.ex,b≠X.env.locals/\∀x c,X.env.cells.lookup x=some c->c≠b
 bs:∀b o,X.base.get? b=some o->X.s₀.heap.get? b=some o/\X.H₀ b=none
 bsz:X.base.objs.size<=X.s₀.heap.objs.size
 noex:∀b o,X.base.get? b=some o->b∉X.ex
 exfs:∀b∈X.ex,b∉X.fs
 funs:X.s₀.heap.FunFrames X.base X.outer
 frf:∀b∈X.fs,X.H₀ b=none
structure Inv (X:Cx) (pins:List (Addr×Obj)) (Z:List (Option V)) (H:Hp) (s:Shared):Prop where
 ok:X.Ok
 os:s.os=X.s₀.os
 bare:AllBare s.gens
 base:Un X.fs X.ex X.H₀ H X.s₀.heap s.heap
 loc:∃m,s.heap.Ns X.env.locals m/\∀(i:Nat) (x:Str) (v:V),X.N[i]?=some x->Z[i]?=some (some v)->mL X.env.scope x->∃u,RelV v u/\qVE X.env s.heap m x u
 cell:∀x c,X.env.cells.lookup x=some c->∃v,s.heap.IsCell c v
 free:H X.env.locals=none
 freeC:∀x c,X.env.cells.lookup x=some c->H c=none
 pin:∀p∈X.pn++pins,s.heap.get? p.1=some p.2/\H p.1=none/\p.1≠X.env.locals/\p.1∉X.fs/\∀v,p.2.data≠.cell v
 hok:HOk X.prog X.w H s.heap
 len:Z.length=X.N.length
section
variable {X:Cx}{pins:List (Addr×Obj)}{Z:List (Option V)}{H H':Hp}{s:Shared}{h':Heap}
theorem Cx.Ok.nofr (ok:X.Ok) {b:Addr}{o:Obj}(e:X.base.get? b=some o):b∉X.fs:=λhb=>by
 have:=(ok.funs.mem hb).1
 rw [e] at this;cases this
theorem Inv.bs (I:Inv X pins Z H s):∀b o,X.base.get? b=some o->s.heap.get? b=some o/\H b=none:=λb o e =>
 ⟨I.base.keep b o (I.ok.bs b o e).1 (I.ok.bs b o e).2 (I.ok.nofr e) (I.ok.noex b o e),I.base.free b o (I.ok.bs b o e).1 (I.ok.bs b o e).2 (I.ok.noex b o e)⟩
theorem Inv.bk (I:Inv X pins Z H s):∀b o,X.base.get? b=some o->s.heap.get? b=some o:=λb o e=>(I.bs b o e).1
theorem Inv.mod (I:Inv X pins Z H s):Mod X.K X.mg X.base:=I.ok.mod
theorem Inv.kIn (I:Inv X pins Z H s):X.K.In s.heap:=I.ok.mod.kin.keeps I.bk
theorem Inv.lt (I:Inv X pins Z H s):X.env.locals<s.heap.objs.size:=let ⟨_,hn,_⟩:=I.loc;hn.lt
theorem Inv.sz (I:Inv X pins Z H s):X.s₀.heap.objs.size<=s.heap.objs.size:=dR I.ok.above (Nat.le_of_lt I.lt)
theorem Inv.nofs (I:Inv X pins Z H s) {a:Addr}(h:s.heap.objs.size<=a):a∉X.fs:=λhb=>by
 obtain⟨_,o,ho,_⟩:=I.ok.funs.mem hb
 exact Qn (dy (Qi ho) (dR I.sz h)) (fX _)
theorem Inv.cne (I:Inv X pins Z H s):∀x c,X.env.cells.lookup x=some c->c≠X.env.locals:=λx c e z=>by
 obtain⟨v,o,ho,hd⟩:=I.cell x c e
 obtain⟨m,⟨o',es,ep,ho',hd',_⟩,_⟩:=I.loc
 rw [z,ho'] at ho;cases ho;rw [hd'] at hd;cases hd
theorem Inv.funs (I:Inv X pins Z H s):s.heap.FunFrames X.base X.outer:=by
 have all:∀(l:List Env),(∀b∈gJ l,b∈X.fs)->X.s₀.heap.FunFrames X.base l->s.heap.FunFrames X.base l:=by
  intro l
  induction l with
  | nil=>intro _ _;trivial
  | cons env r ih =>
   intro hs hl
   obtain⟨hk,⟨L,o,hf,hn,ho,hd⟩,hr⟩:=hl
   have hL:L∈X.fs:=hs L (by unfold gJ;rw [sE,hf];exact dz)
   obtain⟨sl,e⟩:=I.base.slot L o ho (I.ok.frf L hL) hL λz=>I.ok.exfs L z hL
   exact⟨hk,⟨L,_,hf,hn,e,hd⟩,ih (λb hb=>hs b (by unfold gJ;rw [sE,hf];exact dM _ hb)) hr⟩
 exact all X.outer (λ_ hb=>hb) I.ok.funs
theorem Inv.stack (I:Inv X pins Z H s):s.heap.FunFrames X.base X.stack:=by
 rcases I.ok.stk with e|⟨e,hf⟩
 ·rw [e];exact I.funs
 ·rw [e]
  obtain⟨m,hn,_⟩:=I.loc
  refine .cons (by rw [I.ok.kind];decide) hf hn ?_ I.funs
  exact Heap.get?_none_of_le (dR I.ok.bsz I.ok.above)
theorem Inv.stkSub (I:Inv X pins Z H s):∀b∈gJ X.stack,b∈X.env.locals::X.fs:=λb hb=>by
 rcases I.ok.stk with e|⟨e,hf⟩
 ·rw [e] at hb;exact dM _ hb
 ·rw [e] at hb
  unfold gJ at hb
  rw [sE,hf] at hb
  exact hb
theorem Inv.stkFree (I:Inv X pins Z H s):∀b∈gJ X.stack,H b=none:=λb hb=>by
 rcases yag.mp (I.stkSub b hb) with e|hb
 ·rw [e];exact I.free
 ·obtain⟨_,o,ho,_⟩:=I.ok.funs.mem hb
  exact I.base.free b o ho (I.ok.frf b hb) λz=>I.ok.exfs b z hb
theorem Inv.step {g':Array GenState}{t':Nat}{d':Drawn}{ch:List Addr}(I:Inv X pins Z H s)
  (hch:∀b∈ch,(b∈X.ex∨X.s₀.heap.objs.size<=b)/\b≠X.env.locals/\(∀x c,X.env.cells.lookup x=some c->c≠b)/\∀p∈X.pn++pins,p.1≠b)
  (keep:∀b o,b≠X.env.locals->b∉X.fs->b∉ch->s.heap.get? b=some o->H b=none->h'.get? b=some o)
  (slot:∀b o,b≠X.env.locals->b∈X.fs->b∉ch->s.heap.get? b=some o->H b=none->∃sl,h'.get? b=some { o with slots:=sl }) (free:∀b o,b∉ch->s.heap.get? b=some o->H b=none->H' b=none)
  (there:∀b o,b∉ch->s.heap.get? b=some o->∃o',h'.get? b=some o')
  (tups:∀b xs,H b=some (.tup xs)->H' b=some (.tup xs)) (frzs:∀b o u,H b=some (.frz o u)->H' b=some (.frz o u)) (tbls:∀b ps,H b=some (.tbl ps)->∃more,H' b=some (.tbl (ps++more)))
  (ns:∀m,s.heap.Ns X.env.locals m->h'.Ns X.env.locals m) (hok:HOk X.prog X.w H' h') (hg:AllBare g') :
  Inv X pins Z H' { s with heap:=h',gens:=g',drawn:=d',toks:=t' }:=by
 have neL:∀b o,X.s₀.heap.get? b=some o->b≠X.env.locals:=λb o e=>cD (dy (Qi e) I.ok.above)
 have neC:∀b o,X.s₀.heap.get? b=some o->b∉X.ex->b∉ch:=λb o e hx hb=>by
  rcases (hch b hb).1 with z|z
  ·exact hx z
  ·exact Qn (dy (Qi e) z) (fX _)
 have cellK:∀x c,X.env.cells.lookup x=some c->∀v,s.heap.IsCell c v->h'.IsCell c v:=λx c e v ⟨o,ho,hd⟩=>by
  have nch:c∉ch:=λz=>(hch c z).2.2.1 x c e rfl
  by_cases hc:c∈X.fs
  ·obtain⟨sl,q⟩:=slot c o (I.cne x c e) hc nch ho (I.freeC x c e)
   exact⟨_,q,hd⟩
  ·exact⟨o,keep c o (I.cne x c e) hc nch ho (I.freeC x c e),hd⟩
 refine⟨I.ok,I.os,hg,⟨λb o e n hb hx=>?_,λb o e n hb hx=>?_,λb o e n hx=>?_,λb o e hx=>?_,λb xs e=>tups b xs (I.base.tups b xs e),λb o xs e=>frzs b o xs (I.base.frzs b o xs e),λb ps e=>?_⟩,?_,λx c e=>?_,?_,λx c e=>?_,λp hp=>?_,hok,I.len⟩
 ·exact keep b o (neL b o e) hb (neC b o e hx) (I.base.keep b o e n hb hx) (I.base.free b o e n hx)
 ·obtain⟨sl,e1⟩:=I.base.slot b o e n hb hx
  obtain⟨sl',e2⟩:=slot b _ (neL b o e) hb (neC b o e hx) e1 (I.base.free b o e n hx)
  exact⟨sl',e2⟩
 ·obtain⟨o',e1⟩:=I.base.there b o e hx
  exact free b o' (neC b o e hx) e1 (I.base.free b o e n hx)
 ·obtain⟨o',e1⟩:=I.base.there b o e hx
  exact there b o' (neC b o e hx) e1
 ·obtain⟨m1,e1⟩:=I.base.tbls b ps e
  obtain⟨m2,e2⟩:=tbls b _ e1
  exact⟨m1++m2,by rw [e2,Array.append_assoc]⟩
 ·obtain⟨m,hn,hl⟩:=I.loc
  refine⟨m,ns m hn,λi x v e1 e2 e3=>?_⟩
  obtain⟨u,r,l⟩:=hl i x v e1 e2 e3
  refine⟨u,r,?_⟩
  rcases l with l|⟨k,c,e,z⟩
  ·exact .inl l
  ·exact .inr ⟨k,c,e,cellK x c e _ z⟩
 ·obtain⟨v,z⟩:=I.cell x c e
  exact⟨v,cellK x c e v z⟩
 ·obtain⟨m,⟨o,_,_,ho,_⟩,_⟩:=I.loc
  exact free _ o (λz=>(hch _ z).2.1 rfl) ho I.free
 ·obtain⟨v,o,ho,hd⟩:=I.cell x c e
  exact free c o (λz=>(hch c z).2.2.1 x c e rfl) ho (I.freeC x c e)
 ·obtain⟨e,n,ne,nf,d⟩:=I.pin p hp
  have nch:p.1∉ch:=λz=>(hch p.1 z).2.2.2 p hp rfl
  exact⟨keep p.1 p.2 ne nf nch e n,free p.1 p.2 nch e n,ne,nf,d⟩
theorem Inv.un {t':Nat}(I:Inv X pins Z H s) (u:Un X.fs [] H H' s.heap h') (hok:HOk X.prog X.w H' h'):Inv X pins Z H' { s with heap:=h',toks:=t' }:=by
 obtain⟨m,⟨o,es,ep,ho,r⟩,_⟩:=id I.loc
 obtain⟨sl,hL⟩:=u.any ho I.free (by simp)
 exact I.step (g':=s.gens) (d':=s.drawn) (ch:=[]) (λ_ z=>nomatch z) (λb o _ hb _ e n=>u.keep b o e n hb (by simp)) (λb o _ hb _ e n=>u.slot b o e n hb (by simp)) (λb o _ e n=>u.free b o e n (by simp)) (λb o _ e=>u.there b o e (by simp)) u.tups u.frzs u.tbls (λm' hm=>by
  obtain⟨o',es',ep',ho',r'⟩:=hm
  rw [ho] at ho';cases ho'
  exact⟨_,es',ep',hL,r'⟩) hok I.bare
theorem Inv.call {g':Array GenState}{t':Nat}{d':Drawn}{ch:List Addr}(I:Inv X pins Z H s) (u:Un (gJ X.stack) ch H H' s.heap h') (hok:HOk X.prog X.w H' h') (hg:AllBare g')
  (hch:∀b∈ch,(b∈X.ex∨X.s₀.heap.objs.size<=b)/\b≠X.env.locals/\(∀x c,X.env.cells.lookup x=some c->c≠b)/\∀p∈X.pn++pins,p.1≠b) :
  Inv X pins Z H' { s with heap:=h',gens:=g',drawn:=d',toks:=t' }:=by
 obtain⟨m,⟨o,es,ep,ho,r⟩,_⟩:=id I.loc
 obtain⟨sl,hL⟩:=u.any ho I.free λz=>(hch _ z).2.1 rfl
 exact I.step (ch:=ch) hch (λb o hL hb hc e n=>u.keep b o e n (λz=>(yag.mp (I.stkSub b z)).elim hL hb) hc) (λb o _ _ hc e n=>u.any e n hc) (λb o hc e n=>u.free b o e n hc) (λb o hc e=>u.there b o e hc) u.tups u.frzs u.tbls (λm' hm=>by
  obtain⟨o',es',ep',ho',r'⟩:=hm
  rw [ho] at ho';cases ho'
  exact⟨_,es',ep',hL,r'⟩) hok hg
theorem Inv.turned {t':Nat}{it:Addr}(I:Inv X pins Z H s) (k:∀b o,b≠it->s.heap.get? b=some o->h'.get? b=some o) (hn:H it=none) (hL:it≠X.env.locals)
  (h1:it∈X.ex∨X.s₀.heap.objs.size<=it) (h2:∀x c,X.env.cells.lookup x=some c->c≠it) (h3:∀p∈X.pn++pins,p.1≠it):Inv X pins Z H { s with heap:=h',toks:=t' }:=by
 have nit:∀b u,H b=some u->b≠it:=λb u e z=>by rw [z,hn] at e;cases e
 refine I.step (g':=s.gens) (d':=s.drawn) (ch:=[it]) (λb hb=>?_) (λb o _ _ hc e _=>k b o (λz=>hc (by simp [z])) e) (λb o _ _ hc e _=>⟨o.slots,k b o (λz=>hc (by simp [z])) e⟩) (λ_ _ _ _ n=>n)
  (λb o hc e=>⟨o,k b o (λz=>hc (by simp [z])) e⟩) (λ_ _ e=>e) (λ_ _ _ e=>e) (λb ps e=>⟨#[],by rw [e];simp⟩) (λm hm=>?_) (λb u e=>?_) I.bare
 ·have e:b=it:=by simpa using hb
  subst e
  exact⟨h1,hL,h2,h3⟩
 ·obtain⟨o,es,ep,ho,r⟩:=hm
  exact⟨o,es,ep,k _ o (Ne.symm hL) ho,r⟩
 ·refine (I.hok b u e).stay (λc v hc q=>k c v ?_ q) (λ_ q=>q) λ_ _ q=>q
  rcases hc with z|z
  ·rw [z];exact nit b u e
  ·exact nit c _ z
theorem Inv.tok (I:Inv X pins Z H s) (t:Nat):Inv X pins Z H { s with toks:=t }:=I.un (h':=s.heap) (t':=t) Un.refl I.hok
theorem Inv.kept {t':Nat}(I:Inv X pins Z H s) (k:∀b u,s.heap.get? b=some u->h'.get? b=some u):Inv X pins Z H { s with heap:=h',toks:=t' }:=I.un (Un.kept k) (I.hok.kept k)
theorem Inv.laid {a:Addr}{o:HO}{t':Nat}(I:Inv X pins Z H s) (k:∀b u,s.heap.get? b=some u->h'.get? b=some u) (hp:s.heap.objs.size<=a) (new:ObjOk X.prog X.w (aA H a o) h' a o) :
  Inv X pins Z (aA H a o) { s with heap:=h',toks:=t' }:=I.un (Un.laid k hp (I.hok.fresh hp)) (I.hok.laid k hp new)
theorem Inv.write {x e:Addr}{o:HO}{t':Nat}(I:Inv X pins Z H s) (mu:rY (H x)) (he:e=x∨H e=some (.own x)) (k:∀b u,b≠e->s.heap.get? b=some u->h'.get? b=some u) (heo:∃u,h'.get? e=some u)
  (new:ObjOk X.prog X.w (aA H x o) h' x o):Inv X pins Z (aA H x o) { s with heap:=h',toks:=t' }:=I.un (Un.write mu he k heo) (I.hok.write mu he k heo new)
theorem Inv.pins_of {pins':List (Addr×Obj)}(I:Inv X pins Z H s) (h:∀p∈pins',s.heap.get? p.1=some p.2/\H p.1=none/\p.1≠X.env.locals/\p.1∉X.fs/\∀v,p.2.data≠.cell v):Inv X pins' Z H s:=
 ⟨I.ok,I.os,I.bare,I.base,I.loc,I.cell,I.free,I.freeC,λp hp=>(ybz.mp hp).elim (λz=>I.pin p (List.mem_append_left _ z)) (h p),I.hok,I.len⟩
theorem vB {N:List Str}(hN:N.Nodup) {i j:Nat}{x:Str}(a:N[i]?=some x) (b:N[j]?=some x):i=j:=by
 obtain⟨h1,e1⟩:=yal.mp a
 obtain⟨h2,e2⟩:=yal.mp b
 exact (List.getElem_inj hN).mp (e1.trans e2.symm)
theorem Dd {M:Model}{A:Around}{E:Value->Shared->Prop}{i:Nat}{x:Str}{v:V}{u:Value}{Q:Unit->Shared->Prop}(I:Inv X pins Z H s) (hN:X.N.Nodup) (hi:X.N[i]?=some x) (hx:mN X.env.scope x) (r:RelV v u)
  (h:∀s',Inv X pins (Z.set i (some v)) H s'->(∃a,Heap.SameBut a s.heap s'.heap/\(a=X.env.locals∨X.env.cells.lookup x=some a))->Q () s') (hf:X.fn x=true∨X.env.scope.names.lookup x=some .local:=by first|exact .inl rfl|exact .inr rfl|assumption):wpAny M A (storeName X.env x u) Q E s:=by
 obtain⟨m,hn,hl⟩:=id I.loc
 have hcls:(X.env.scope.kind == .class||(X.env.scope.kind == .module&&X.env.locals != X.env.globals))=false:=by rw [I.ok.kind];rfl
 have hiZ:i<Z.length:=by rw [I.len];exact (yal.mp hi).1
 have cne:=I.cne
 have tracked:∀{a:Addr} {h':Heap},(∃o,s.heap.get? a=some o/\H a=none)->Heap.SameBut a s.heap h'->HOk X.prog X.w H h':=λ{a h'} ha hs b ob e=>by
  obtain⟨_,_,hfree⟩:=ha
  refine (I.hok b ob e).stay (λc w' hc q=>(hs.2 c ?_).trans q) (λ_ q=>q) λ_ _ q=>q
  rintro rfl
  rcases hc with rfl|hc
  ·rw [hfree] at e;cases e
  ·rw [hfree] at hc;cases hc
 rcases hx with hk|hk
 ·refine wpAny_storeName_local hk hn (λh' hn' hs=>?_) hcls
  obtain⟨oL,_,_,hoL,_⟩:=id hn
  refine h _ ⟨I.ok,I.os,I.bare,⟨λb o e n hb hx=>?_,λb o e n hb hx=>?_,I.base.free,λb o e hx=>?_,I.base.tups,I.base.frzs,I.base.tbls⟩,⟨_,hn',λj y v' e1 e2 e3=>?_⟩,λy c e=>?_,I.free,I.freeC,λp hp=>?_,tracked ⟨oL,hoL,I.free⟩ hs,by simpa using I.len⟩ ⟨_,hs,.inl rfl⟩
  ·exact (hs.2 b (cD (dy (Qi e) I.ok.above))).trans (I.base.keep b o e n hb hx)
  ·obtain⟨sl,e1⟩:=I.base.slot b o e n hb hx
   exact⟨sl,(hs.2 b (cD (dy (Qi e) I.ok.above))).trans e1⟩
  ·obtain⟨o',e1⟩:=I.base.there b o e hx
   exact⟨o',(hs.2 b (cD (dy (Qi e) I.ok.above))).trans e1⟩
  ·by_cases hj:j=i
   ·subst hj
    rw [hi] at e1;cases e1
    rw [k0 hiZ] at e2
    cases e2
    exact⟨u,r,.inl ⟨hk,by simp⟩⟩
   ·rw [cM (Ne.symm hj)] at e2
    obtain⟨u',r',q⟩:=hl j y v' e1 e2 e3
    refine⟨u',r',?_⟩
    rcases q with ⟨k,e⟩|⟨k,c,e,z⟩
    ·refine .inl ⟨k,?_⟩
     have:y≠x:=λe=>hj (vB hN e1 (e▸hi))
     simp [this,e]
    ·exact .inr ⟨k,c,e,z.sameBut hs (cne y c e)⟩
  ·obtain⟨w',z⟩:=I.cell y c e
   exact⟨w',z.sameBut hs (cne y c e)⟩
  ·obtain⟨e,n,ne,nf,d⟩:=I.pin p hp
   exact⟨(hs.2 p.1 ne).trans e,n,ne,nf,d⟩
 ·have hfn:X.fn x=true:=by
   rcases hf with z|z
   ·exact z
   ·rw [z] at hk;cases hk
  obtain⟨c,hc⟩:=I.ok.has x (.inl hk)
  obtain⟨w',z⟩:=I.cell x c hc
  refine wpAny_storeName_cell I.ok.kind hk hc z (λh' hc' hs=>?_)
  obtain⟨oc,hoc,hocd⟩:=id z
  refine h { s with heap:=h' } ⟨I.ok,I.os,I.bare,⟨λb o e n hb hx=>?_,λb o e n hb hx=>?_,I.base.free,λb o e hx=>?_,I.base.tups,I.base.frzs,I.base.tbls⟩,⟨m,hn.sameBut hs (Ne.symm (cne x c hc)),λj y v' e1 e2 e3=>?_⟩,λy c' e=>?_,I.free,I.freeC,λp hp=>?_,tracked ⟨oc,hoc,I.freeC x c hc⟩ hs,by simpa using I.len⟩ ⟨c,hs,.inr hc⟩
  ·exact (hs.2 b (cD (dy (Qi e) (I.ok.cab x c hfn hc)))).trans (I.base.keep b o e n hb hx)
  ·obtain⟨sl,e1⟩:=I.base.slot b o e n hb hx
   exact⟨sl,(hs.2 b (cD (dy (Qi e) (I.ok.cab x c hfn hc)))).trans e1⟩
  ·obtain⟨o',e1⟩:=I.base.there b o e hx
   exact⟨o',(hs.2 b (cD (dy (Qi e) (I.ok.cab x c hfn hc)))).trans e1⟩
  ·by_cases hj:j=i
   ·subst hj
    rw [hi] at e1;cases e1
    rw [k0 hiZ] at e2
    cases e2
    exact⟨u,r,.inr ⟨.inl hk,c,hc,hc'⟩⟩
   ·rw [cM (Ne.symm hj)] at e2
    obtain⟨u',r',q⟩:=hl j y v' e1 e2 e3
    refine⟨u',r',?_⟩
    rcases q with q|⟨k,c',e,z'⟩
    ·exact .inl q
    ·refine .inr ⟨k,c',e,z'.sameBut hs ?_⟩
     rintro rfl
     exact hj (vB hN e1 (I.ok.inj _ _ _ e hc▸hi))
  ·by_cases hcc:c'=c
   ·subst hcc;exact⟨_,hc'⟩
   ·obtain⟨w2,z2⟩:=I.cell y c' e
    exact⟨w2,z2.sameBut hs hcc⟩
  ·obtain⟨e,n,ne,nf,d⟩:=I.pin p hp
   refine⟨(hs.2 p.1 ?_).trans e,n,ne,nf,d⟩
   intro q
   rw [q,hoc] at e
   have q':oc=p.2:=fU e
   exact d w' (by rw [<-q'];exact hocd)
theorem CT {M:Model}{A:Around}{E:Value->Shared->Prop}{i:Nat}{x:Str}{v:V}{u:Value}{Q:Unit->Shared->Prop}(I:Inv X pins Z H s) (hN:X.N.Nodup) (hi:X.N[i]?=some x) (hx:mN X.env.scope x) (r:RelV v u)
  (h:∀s',Inv X pins (Z.set i (some v)) H s'->Q () s') (hf:X.fn x=true∨X.env.scope.names.lookup x=some .local:=by first|exact .inl rfl|exact .inr rfl|assumption):wpAny M A (storeName X.env x u) Q E s:=
 Dd I hN hi hx r (λs' I' _=>h s' I') hf
theorem Inv.call' {s':Shared}{ch:List Addr}(I:Inv X pins Z H s) (ho:s'.os=s.os) (u:Un (gJ X.stack) ch H H' s.heap s'.heap) (hok:HOk X.prog X.w H' s'.heap) (hg:AllBare s'.gens)
  (hch:∀b∈ch,(b∈X.ex∨X.s₀.heap.objs.size<=b)/\b≠X.env.locals/\(∀x c,X.env.cells.lookup x=some c->c≠b)/\∀p∈X.pn++pins,p.1≠b):Inv X pins Z H' s':=by
 obtain⟨h',g',d',t',o'⟩:=s'
 have e:o'=s.os:=ho
 subst e
 exact I.call (g':=g') (t':=t') (d':=d') u hok hg hch
end
abbrev XK:=Value->Option Addr->Hp->Prop
abbrev St:=List (Option V)
abbrev VK:=V->Hp->Prop
abbrev TE:=St->Hp->VK->Prop
abbrev TT:=St->Hp->(Bool->Hp->Prop)->Prop
abbrev TA:=St->Hp->(List V->Hp->Prop)->Prop
structure Ends where
 nx:St->Hp->Prop
 rt:VK
 bk:St->Hp->Prop:=λ_ _=>False
 ct:St->Hp->Prop:=λ_ _=>False
abbrev TS:=Ends->St->Hp->Prop
def EP (X:Cx) (pins:List (Addr×Obj)) (Z:St) (Q:VK) (u:Value) (s':Shared):Prop:=∃v H',Inv X pins Z H' s'/\RelV v u/\Q v H'
def TP (X:Cx) (pins:List (Addr×Obj)) (Z:St) (Q:Bool->Hp->Prop) (b:Bool) (s':Shared):Prop:=∃H',Inv X pins Z H' s'/\Q b H'
def AP (X:Cx) (pins:List (Addr×Obj)) (Z:St) (Q:List V->Hp->Prop) (us:List Value) (s':Shared):Prop:=∃vs H',Inv X pins Z H' s'/\Vals vs us/\Q vs H'
def SP (X:Cx) (pins:List (Addr×Obj)) (D:Ends) (f:Flow) (s':Shared):Prop:=
 match f with
 | .next=>∃Z' H',Inv X pins Z' H' s'/\D.nx Z' H'
 | .brk=>∃Z' H',Inv X pins Z' H' s'/\D.bk Z' H'
 | .cont=>∃Z' H',Inv X pins Z' H' s'/\D.ct Z' H'
 | .ret u=>∃v Z' H',Inv X pins Z' H' s'/\RelV v u/\D.rt v H'
def PE (X:Cx) (e:Expr) (t:TE):Prop:=
 ∀(pins:List (Addr×Obj)) (s:Shared) (Z:St) (H:Hp) (Q:VK),Inv X pins Z H s->t Z H Q->wpAny (model X.prog X.w) X.A (eval e X.env) (EP X pins Z Q) X.xe s
def PT (X:Cx) (e:Expr) (t:TT):Prop:=
 ∀(pins:List (Addr×Obj)) (s:Shared) (Z:St) (H:Hp) (Q:Bool->Hp->Prop),Inv X pins Z H s->t Z H Q->wpAny (model X.prog X.w) X.A (isTrue e X.env (eval e X.env)) (TP X pins Z Q) X.xe s
def PW (X:Cx) (e:Expr) (t:TT):Prop:=
 ∀(whole:Sem Value) (pins:List (Addr×Obj)) (s:Shared) (Z:St) (H:Hp) (Q:Bool->Hp->Prop),Inv X pins Z H s->t Z H Q->wpAny (model X.prog X.w) X.A (isTrue e X.env whole) (TP X pins Z Q) X.xe s
theorem PW.pt {X:Cx}{e:Expr}{t:TT}(h:PW X e t):PT X e t:=h _
def PA (X:Cx) (es:List Expr) (t:TA):Prop:=
 ∀(pos:Pos) (pins:List (Addr×Obj)) (s:Shared) (Z:St) (H:Hp) (Q:List V->Hp->Prop),Inv X pins Z H s->t Z H Q->wpAny (model X.prog X.w) X.A (spliced (backTo pos (starEach es X.env))) (AP X pins Z Q) X.xe s
def PS (X:Cx) (st:Stmt) (t:TS):Prop:=
 ∀(pins:List (Addr×Obj)) (s:Shared) (Z:St) (H:Hp) (D:Ends),Inv X pins Z H s->t D Z H->wpAny (model X.prog X.w) X.A (exec st X.env) (SP X pins D) X.xe s
def PSs (X:Cx) (st:List Stmt) (t:TS):Prop:=
 ∀(pins:List (Addr×Obj)) (s:Shared) (Z:St) (H:Hp) (D:Ends),Inv X pins Z H s->t D Z H->wpAny (model X.prog X.w) X.A (execs st X.env) (SP X pins D) X.xe s
theorem aF {α:Type}{t:Sem α}{Q Q':α->Shared->Prop}{M:Model}{A:Around}{E:Value->Shared->Prop}{s:Shared}(h:wpAny M A t Q E s) (hQ:∀a s,Q a s->Q' a s):wpAny M A t Q' E s:=Qe h hQ λ_ _ x=>x
end L2
namespace L2
open PySem PySem.Spec PyProof.Rows
section
variable {X:Cx}
theorem bin {a b:Expr}{ta tb:TE}(ha:PE X a ta) (hb:PE X b tb) {pins:List (Addr×Obj)}{s:Shared}{Z:St}{H:Hp}{R:V->V->Hp->Prop}(I:Inv X pins Z H s) (h:ta Z H λx H1=>tb Z H1 λy H2=>R x y H2)
  {α:Type} {Q:α->Shared->Prop} {f:Value->Value->Sem α}
  (hf:∀v u s2 x y H2,Inv X pins Z H2 s2->RelV x v->RelV y u->R x y H2->wpAny (model X.prog X.w) X.A (f v u) Q X.xe s2) :
  wpAny (model X.prog X.w) X.A (eval a X.env) (λv s₁=>wpAny (model X.prog X.w) X.A (eval b X.env) (λu s₂=>wpAny (model X.prog X.w) X.A (f v u) Q X.xe s₂) X.xe s₁) X.xe s:=by
 refine aF (ha pins s Z H _ I h) λv s1 ⟨x,H1,I1,r1,q1⟩=>?_
 refine aF (hb pins s1 Z H1 _ I1 q1) λu s2 ⟨y,H2,I2,r2,q2⟩=>?_
 exact hf v u s2 x y H2 I2 r1 r2 q2
noncomputable def ni (i:Nat):TE:=fun Z H Q=>∃v,Z[i]?=some (some v)/\Q v H
noncomputable def tC (v:V):TE:=λ_ H Q=>Q v H
theorem ia {i:Nat}{x:Str}{pos:Pos}(hN:X.N[i]?=some x) (hv:mL X.env.scope x) (hd:(x == ("__debug__":Str))=false:=by decide) (hcd:(x == ("__classdict__":Str))=false:=by decide):PE X (.Name x pos) (ni i):=by
 intro pins s Z H Q I h
 obtain⟨v,e,h⟩:=h
 obtain⟨m,hn,hl⟩:=I.loc
 obtain⟨u,r,l⟩:=hl i x v hN e hv
 have fin:EP X pins Z Q u s:=⟨v,H,I,r,h⟩
 rcases l with ⟨hk,hm⟩|⟨hk,c,hc,hcell⟩
 ·exact wpAny_Name (wpAny_loadName_local I.ok.kind hk hn hm fin) hd
 ·rcases hk with hk|hk
  ·exact wpAny_Name (wpAny_loadName_cell I.ok.kind hk hc hcell fin) hd
  ·exact wpAny_Name (wpAny_loadName_free I.ok.kind hk hc hcell fin hcd) hd
theorem Am {i j pos}:PE X (.Constant (.int i) j pos) (tC (.int i)):=λ_ _ _ H _ I h=>wpAny_Constant_int ⟨.int i,H,I.tok _,⟨_,rfl⟩,h⟩
theorem qTj {b j pos}:PE X (.Constant (.bool b) j pos) (tC (.bl b)):=λ_ _ _ H _ I h=>Constant_bool ⟨.bl b,H,I,rfl,h⟩
theorem qQz {j pos}:PE X (.Constant .none j pos) (tC .non):=λ_ _ _ H _ I h=>Constant_none ⟨.non,H,I,rfl,h⟩
theorem qQw {x j pos}:PE X (.Constant (.str x) j pos) (tC (.str x)):=λ_ _ _ H _ I h=>Calls.Constant_str ⟨.str x,H,I.tok _,⟨_,rfl⟩,h⟩
def Gl (X:Cx) (x:Str):Prop:=X.env.kindOf x=some .globalImplicit
theorem nR {E:Value->Shared->Prop}{pins:List (Addr×Obj)}{s:Shared}{Z:St}{H:Hp}{x:Str}{u:Value}{pos:Pos}{Q:Value->Shared->Prop}(I:Inv X pins Z H s) (hg:Gl X x) (hm:X.mg x=some u) (h:Q u s)
  (hd:(x == ("__debug__":Str))=false:=by decide):wpAny (model X.prog X.w) X.A (eval (.Name x pos) X.env) Q E s:=
 Calls.Name_function_global I.ok.kind hg (Calls.loadGlobal_global (by rw [I.ok.glob];exact I.mod.glob.keeps I.bk) hm h) hd
theorem f9 {E:Value->Shared->Prop}{pins:List (Addr×Obj)}{s:Shared}{Z:St}{H:Hp}{x:Str}{u:Value}{pos:Pos}{Q:Value->Shared->Prop}(I:Inv X pins Z H s) (hg:Gl X x) (hm:X.mg x=none) (hv:Qo x=some u) (h:Q u s)
  (hn:x≠"__name__":=by decide) (hd:(x == ("__debug__":Str))=false:=by decide):wpAny (model X.prog X.w) X.A (eval (.Name x pos) X.env) Q E s:=by
 obtain⟨mb,h1,h2⟩:=I.mod.blt
 exact Calls.Name_function_global I.ok.kind hg (Calls.loadGlobal_builtin (by rw [I.ok.glob];exact I.mod.glob.keeps I.bk) hm (by rw [I.ok.blt];exact h1.keeps I.bk) ((h2 x hn).trans hv) h) hd
theorem qN8 {x:Str}{v:V}{u:Value}{pos:Pos}(hg:Gl X x) (hm:X.mg x=some u) (r:RelV v u) (hd:(x == ("__debug__":Str))=false:=by decide):PE X (.Name x pos) (tC v):=
 λ_ _ _ H _ I h=>nR I hg hm ⟨v,H,I,r,h⟩ hd
theorem qOa {x:Str}{v:V}{u:Value}{pos:Pos}(hg:Gl X x) (hm:X.mg x=none) (hv:Qo x=some u) (r:RelV v u) (hn:x≠"__name__":=by decide) (hd:(x == ("__debug__":Str))=false:=by decide):PE X (.Name x pos) (tC v):=
 λ_ _ _ H _ I h=>f9 I hg hm hv ⟨v,H,I,r,h⟩ hn hd
variable {a b:Expr}{ta tb:TE}{pos:Pos}
noncomputable def tB (t:TE):TT:=fun Z H Q=>t Z H λx H1=>∃c,x=.bl c/\Q c H1
theorem qQl {e:Expr}{t:TE}(h:PE X e t) (he:∀whole,isTrue e X.env whole=(do let v <-whole;standAt e.pos;holding [v] (truthy v)):=by intro _;rfl):PT X e (tB t):=by
 intro pins s Z H Q I hw
 refine isTrue_plain (aF (h pins s Z H _ I hw) λv s1 ⟨x,H1,I1,r1,q1⟩=>?_) (he _)
 obtain⟨d,rfl,q⟩:=q1
 cases r1
 exact wpAny_truthy_bool ⟨H1,I1,q⟩
variable {tA tB':TT}{rest:List Expr}
noncomputable def qU7 (t u:TT):TT:=fun Z H Q=>t Z H λc H1=>if c=true then u Z H1 Q else Q false H1
noncomputable def tOr (t u:TT):TT:=fun Z H Q=>t Z H λc H1=>if c=true then Q true H1 else u Z H1 Q
noncomputable def qU0 (t:TT):TT:=fun Z H Q=>t Z H λc H1=>Q (!c) H1
theorem qN1 (ha:PT X a tA):PW X (.BoolOp .And [a] pos) tA:=by
 intro wh pins s Z H Q I h
 refine isTrue_and (aF (ha pins s Z H Q I h) λc s1 e=>?_)
 cases c with
 | true=>exact isTrue_and_nil e
 | false=>exact e
theorem qQj (ha:PT X a tA):PW X (.BoolOp .Or [a] pos) tA:=by
 intro wh pins s Z H Q I h
 refine isTrue_or (aF (ha pins s Z H Q I h) λc s1 e=>?_)
 cases c with
 | false=>exact isTrue_or_nil e
 | true=>exact e
theorem qQk (ha:PT X a tA) (hb:PW X (.BoolOp .And (b::rest) pos) tB'):PW X (.BoolOp .And (a::b::rest) pos) (qU7 tA tB'):=by
 intro wh pins s Z H Q I h
 refine isTrue_and (aF (ha pins s Z H _ I h) λc s1 ⟨H1,I1,q1⟩=>?_)
 cases c with
 | true=>exact hb wh pins s1 Z H1 Q I1 q1
 | false=>exact⟨H1,I1,q1⟩
theorem qTb (ha:PT X a tA) (hb:PW X (.BoolOp .Or (b::rest) pos) tB'):PW X (.BoolOp .Or (a::b::rest) pos) (tOr tA tB'):=by
 intro wh pins s Z H Q I h
 refine isTrue_or (aF (ha pins s Z H _ I h) λc s1 ⟨H1,I1,q1⟩=>?_)
 cases c with
 | true=>exact⟨H1,I1,q1⟩
 | false=>exact hb wh pins s1 Z H1 Q I1 q1
theorem qQm (ha:PT X a tA):PT X (.UnaryOp .Not a pos) (qU0 tA):=by
 intro pins s Z H Q I h
 exact isTrue_not (ha pins s Z H (λc H1=>Q (!c) H1) I h)
noncomputable def qSZ (ta tb:TE):TE:=fun Z H Q=>ta Z H λx H1=>∃c,x=.bl c/\if c=true then tb Z H1 Q else Q (.bl false) H1
noncomputable def qUZ (ta tb:TE):TE:=fun Z H Q=>ta Z H λx H1=>∃c,x=.bl c/\if c=true then Q (.bl true) H1 else tb Z H1 Q
noncomputable def qST (ta:TE):TE:=fun Z H Q=>ta Z H λx H1=>∃c,x=.bl c/\Q (.bl (!c)) H1
theorem qQx {op}{t:TE}(h:PE X a t):PE X (.BoolOp op [a] pos) t:=λpins s Z H Q I hw=>BoolOp_one (h pins s Z H Q I hw)
theorem qQF (ha:PE X a ta) (hb:PE X (.BoolOp .And (b::rest) pos) tb):PE X (.BoolOp .And (a::b::rest) pos) (qSZ ta tb):=by
 intro pins s Z H Q I h
 refine BoolOp_and (aF (ha pins s Z H _ I h) λv s1 ⟨x,H1,I1,r1,q1⟩=>?_)
 obtain⟨c,rfl,q1⟩:=q1
 cases r1
 refine wpAny_truthy_bool ?_
 cases c with
 | true=>exact hb pins s1 Z H1 Q I1 q1
 | false=>exact⟨.bl false,H1,I1,rfl,q1⟩
theorem qTh (ha:PE X a ta) (hb:PE X (.BoolOp .Or (b::rest) pos) tb):PE X (.BoolOp .Or (a::b::rest) pos) (qUZ ta tb):=by
 intro pins s Z H Q I h
 refine BoolOp_or (aF (ha pins s Z H _ I h) λv s1 ⟨x,H1,I1,r1,q1⟩=>?_)
 obtain⟨c,rfl,q1⟩:=q1
 cases r1
 refine wpAny_truthy_bool ?_
 cases c with
 | false=>exact hb pins s1 Z H1 Q I1 q1
 | true=>exact⟨.bl true,H1,I1,rfl,q1⟩
theorem qQy (ha:PE X a ta):PE X (.UnaryOp .Not a pos) (qST ta):=by
 intro pins s Z H Q I h
 refine UnaryOp_ (aF (ha pins s Z H _ I h) λv s1 ⟨x,H1,I1,r1,q1⟩=>?_)
 obtain⟨c,rfl,q1⟩:=q1
 cases r1
 exact not_of (wpAny_truthy_bool ⟨.bl (!c),H1,I1,rfl,q1⟩)
noncomputable def tIf (t:TT) (ta tb:TE):TE:=fun Z H Q=>t Z H λc H1=>if c=true then ta Z H1 Q else tb Z H1 Q
theorem qKQ {c:Expr}(hc:PT X c tA) (ha:PE X a ta) (hb:PE X b tb):PE X (.IfExp c a b pos) (tIf tA ta tb):=by
 intro pins s Z H Q I h
 refine wpAny_IfExp (aF (hc pins s Z H _ I h) λd s1 ⟨H1,I1,q1⟩=>?_)
 cases d with
 | true=>exact ha pins s1 Z H1 Q I1 q1
 | false=>exact hb pins s1 Z H1 Q I1 q1
end
end L2
namespace L2
open PySem PySem.Spec PyProof.Rows
def SqL (K:Qb) (H:Hp) (a:Addr) (xs:List V):Prop:=
 Rd H a (.lst xs) ∨
  ∃(o:Obj) (its:Array Value) (n:Nat),K.lookup a=some o/\o.cls=.type "list"/\o.dict=none/\o.data=.seq its n/\its.size<=sizeLine/\Vals xs its.toList
def SqT (K:Qb) (H:Hp) (a:Addr) (xs:List V):Prop:=
 Rd H a (.tup xs) ∨
  ∃(o:Obj) (its:Array Value) (n:Nat),K.lookup a=some o/\o.cls=.type "tuple"/\o.data=.seq its n/\its.size<=sizeLine/\Vals xs its.toList
def qVD:Value->Option V
 | .none=>some .non
 | .bool b=>some (.bl b)
 | .int i _=>some (.int i)
 | .str x _=>some (.str x)
 | .bytes b _=>some (.byt b)
 | .float b _=>some (.flt b)
 | .ref a=>some (.ref a)
 | .type n=>some (.ty n)
 | _=>none
theorem RelV.abs {x:V}{u:Value}(r:RelV x u):qVD u=some x:=by
 cases x with
 | non=>cases r;rfl
 | bl _=>cases r;rfl
 | int _=>obtain⟨t,rfl⟩:=r;rfl
 | str _=>obtain⟨t,rfl⟩:=r;rfl
 | byt _=>obtain⟨t,rfl⟩:=r;rfl
 | flt _=>obtain⟨t,rfl⟩:=r;rfl
 | ref _=>cases r;rfl
 | ty _=>cases r;rfl
theorem RelV.inj {x y:V}{u:Value}(r:RelV x u) (q:RelV y u):x=y:=fU (r.abs.symm.trans q.abs)
theorem Vals.inj:∀{xs ys:List V}{us:List Value},Vals xs us->Vals ys us->xs=ys
 | _,_,_,.nil,.nil=>rfl
 | _,_,_,.cons r t,.cons r' t'=>by rw [r.inj r',Vals.inj t t']
section
variable {X:Cx}{pins:List (Addr×Obj)}{Z:St}{H:Hp}{s:Shared}{a:Addr}{xs ys:List V}
theorem SqL.of {K:Qb}(h:H a=some (.lst xs)):SqL K H a xs:=.inl (.inl h)
theorem SqT.of {K:Qb}(h:H a=some (.tup xs)):SqT K H a xs:=.inl (.inl h)
theorem Inv.list (I:Inv X pins Z H s) (h:SqL X.K H a xs):∃its:List Value,Vals xs its/\PlainL s.heap a its.toArray/\xs.length<=sizeLine:=by
 rcases h with h|⟨o,its,n,hk,hc,hd,hs,hz,r⟩
 ·obtain⟨z,its,n,r,e⟩:=h.ok I.hok
  exact⟨its,r,⟨_,n,e,rfl,rfl,rfl⟩,z⟩
 ·refine⟨its.toList,r,⟨o,n,I.kIn a o hk,hc,hd,by simpa using hs⟩,?_⟩
  have e:=r.length
  simp only [pz] at e
  omega
theorem Inv.tuple (I:Inv X pins Z H s) (h:SqT X.K H a xs):∃its:List Value,Vals xs its/\IsTup s.heap a its.toArray/\xs.length<=sizeLine:=by
 rcases h with h|⟨o,its,n,hk,hc,hs,hz,r⟩
 ·obtain⟨z,its,r,p⟩:=h.ok I.hok
  exact⟨its,r,p,z⟩
 ·refine⟨its.toList,r,⟨o,I.kIn a o hk,hc,n,by simpa using hs⟩,?_⟩
  have e:=r.length
  simp only [pz] at e
  omega
theorem Inv.list_inj (I:Inv X pins Z H s) (h:SqL X.K H a xs) (h':SqL X.K H a ys):xs=ys:=by
 obtain⟨its,r,⟨o,n,e,_,_,d⟩,_⟩:=I.list h
 obtain⟨its',r',⟨o',n',e',_,_,d'⟩,_⟩:=I.list h'
 rw [e] at e';cases e'
 rw [d] at d'
 injection d' with d1 _
 have:its=its':=by simpa using congrArg Array.toList d1
 subst this
 exact r.inj r'
theorem Inv.tuple_inj (I:Inv X pins Z H s) (h:SqT X.K H a xs) (h':SqT X.K H a ys):xs=ys:=by
 obtain⟨its,r,⟨o,e,_,n,d⟩,_⟩:=I.tuple h
 obtain⟨its',r',⟨o',e',_,n',d'⟩,_⟩:=I.tuple h'
 rw [e] at e';cases e'
 rw [d] at d'
 injection d' with d1 _
 have:its=its':=by simpa using congrArg Array.toList d1
 subst this
 exact r.inj r'
end
noncomputable abbrev Cx.wish (X:Cx) (E:Value->Shared->Prop):Cx:={ X with xe:=E }
abbrev Cx.nox (X:Cx):Cx:=X.wish λ_ _=>False
theorem Cx.Ok.wish {X:Cx}(ok:X.Ok) (E:Value->Shared->Prop):(X.wish E).Ok:=
 ⟨ok.mod,ok.kind,ok.glob,ok.blt,ok.above,ok.inj,ok.has,ok.cab,ok.hd,ok.frames,ok.stk,ok.exf,ok.bs,ok.bsz,ok.noex,ok.exfs,ok.funs,ok.frf⟩
theorem Cx.Ok.unwish {X:Cx}{E:Value->Shared->Prop}(ok:(X.wish E).Ok):X.Ok:=
 ⟨ok.mod,ok.kind,ok.glob,ok.blt,ok.above,ok.inj,ok.has,ok.cab,ok.hd,ok.frames,ok.stk,ok.exf,ok.bs,ok.bsz,ok.noex,ok.exfs,ok.funs,ok.frf⟩
section
variable {X:Cx}{pins:List (Addr×Obj)}{Z:St}{H:Hp}{s:Shared}{E:Value->Shared->Prop}
theorem Inv.wish (I:Inv X pins Z H s) (E:Value->Shared->Prop):Inv (X.wish E) pins Z H s:=⟨I.ok.wish E,I.os,I.bare,I.base,I.loc,I.cell,I.free,I.freeC,I.pin,I.hok,I.len⟩
theorem Inv.unwish (I:Inv (X.wish E) pins Z H s):Inv X pins Z H s:=⟨I.ok.unwish,I.os,I.bare,I.base,I.loc,I.cell,I.free,I.freeC,I.pin,I.hok,I.len⟩
theorem SP.unwish {D:Ends}{f:Flow}{s':Shared}(h:SP (X.wish E) pins D f s'):SP X pins D f s':=by
 cases f with
 | next=>obtain⟨Z',H',I,q⟩:=h;exact⟨Z',H',I.unwish,q⟩
 | brk=>obtain⟨Z',H',I,q⟩:=h;exact⟨Z',H',I.unwish,q⟩
 | cont=>obtain⟨Z',H',I,q⟩:=h;exact⟨Z',H',I.unwish,q⟩
 | ret u=>obtain⟨v,Z',H',I,r,q⟩:=h;exact⟨v,Z',H',I.unwish,r,q⟩
theorem PSs.nox {st:List Stmt}{t:TS}(h:PSs X.nox st t):PSs X st t:=λpins s Z H D I hw =>
 Qe (h pins s Z H D (I.wish _) hw) (λ_ _ q=>q.unwish) λ_ _ z=>False.elim z
end
section
variable {X:Cx}{st:Stmt}{rest:List Stmt}{t u:TS}{e:Expr}{te:TE}{pos:Pos}
noncomputable def qSV:TS:=λD Z H=>D.nx Z H
noncomputable def qUX (t u:TS):TS:=λD Z H=>t { D with nx:=u D } Z H
theorem Br:PSs X [] qSV:=λ_ _ Z H _ I h=>wpAny_execs_nil ⟨Z,H,I,h⟩
theorem CL (h1:PS X st t) (h2:PSs X rest u):PSs X (st::rest) (qUX t u):=by
 intro pins s Z H D I h
 refine wpAny_execs_cons (aF (h1 pins s Z H { D with nx:=u D } I h) λf s1 q=>?_)
 cases f with
 | next =>
  obtain⟨Z',H',I',q⟩:=q
  exact h2 pins s1 Z' H' D I' q
 | ret v=>exact q
 | brk=>exact q
 | cont=>exact q
theorem Inv.quiet {pins:List (Addr×Obj)}{Z:St}{H:Hp}{s:Shared}(I:Inv X pins Z H s):interactive X.env=false:=by simp [interactive,I.ok.kind]
noncomputable def qSW (te:TE):TS:=λD Z H=>te Z H λ_ H1=>D.nx Z H1
theorem Bp (he:PE X e te) (hs:swapsWith e none pos.line X.env=pure false:=by rfl):PS X (.Expr e pos) (qSW te):=by
 intro pins s Z H D I h
 exact wpAny_Expr_any (aF (he pins s Z H _ I h) λv s1 ⟨x,H1,I1,r1,q1⟩=>⟨Z,H1,I1,q1⟩) I.quiet hs
noncomputable def qUY (te:TE):TS:=λD Z H=>te Z H D.rt
theorem Ap (he:PE X e te):PS X (.Return (some e) pos) (qUY te):=by
 intro pins s Z H D I h
 exact wpAny_Return_some (aF (he pins s Z H _ I h) λv s1 ⟨x,H1,I1,r1,q1⟩=>⟨x,Z,H1,I1,r1,q1⟩)
def qU2 (c:TT) (t u:TS):TS:=λD Z H=>c Z H λb H1=>if b=true then t D Z H1 else u D Z H1
theorem qTc {c:Expr}{a b:List Stmt}{tc:TT}(hc:PT X c tc) (ha:PSs X a t) (hb:PSs X b u):PS X (.If c a b pos) (qU2 tc t u):=by
 intro pins s Z H D I h
 refine wpAny_If (aF (hc pins s Z H _ I h) λd s1 ⟨H1,I1,q1⟩=>?_)
 cases d with
 | true=>exact ha pins s1 Z H1 D I1 q1
 | false=>exact hb pins s1 Z H1 D I1 q1
end
abbrev TG:=V->St->Hp->(St->Hp->Prop)->Prop
abbrev jE:=List V->St->Hp->(St->Hp->Prop)->Prop
def PG (X:Cx) (target:Expr) (t:TG):Prop:=
 ∀(pins:List (Addr×Obj)) (s:Shared) (Z:St) (H:Hp) (v:V) (u:Value) (Q:St->Hp->Prop),Inv X pins Z H s->RelV v u->t v Z H Q ->
   wpAny (model X.prog X.w) X.A (assign target X.env u) (λ_ s'=>∃Z' H',Inv X pins Z' H' s'/\Q Z' H') X.xe s
def oO (X:Cx) (ts:List Expr) (t:jE):Prop:=
 ∀(pins:List (Addr×Obj)) (s:Shared) (Z:St) (H:Hp) (vs:List V) (us:List Value) (Q:St->Hp->Prop),Inv X pins Z H s->Vals vs us->t vs Z H Q ->
   wpAny (model X.prog X.w) X.A (assignInOrder ((assignEach ts X.env).map (·.2)) us) (λ_ s'=>∃Z' H',Inv X pins Z' H' s'/\Q Z' H') X.xe s
section
variable {X:Cx}{pos:Pos}
noncomputable def j3 (i:Nat):TG:=λv Z H Q=>Q (Z.set i (some v)) H
theorem rz {i:Nat}{x:Str}(hN:X.N.Nodup) (hi:X.N[i]?=some x) (hx:mN X.env.scope x) (hf:X.fn x=true∨X.env.scope.names.lookup x=some .local:=by first|exact .inl rfl|exact .inr rfl|assumption):PG X (.Name x pos) (j3 i):=by
 intro pins s Z H v u Q I r h
 exact wpAny_assign_Name (CT I hN hi hx r (λs' I'=>⟨_,H,I',h⟩) hf)
noncomputable def tU:jE:=λvs Z H Q=>vs=[]/\Q Z H
noncomputable def qD (t:TG) (u:jE):jE:=λvs Z H Q=>∃v r,vs=v::r/\t v Z H fun Z' H'=>u r Z' H' Q
theorem Bn:oO X [] tU:=by
 intro pins s Z H vs us Q I r h
 obtain⟨e,h⟩:=h
 subst e
 cases r
 exact assignInOrder_nil ⟨Z,H,I,h⟩
theorem vE {e:Expr}{es:List Expr}{t:TG}{u:jE}(h1:PG X e t) (h2:oO X es u)
  (hs:(assignEach (e::es) X.env).map (·.2)=assign e X.env::(assignEach es X.env).map (·.2):=by rfl):oO X (e::es) (qD t u):=by
 intro pins s Z H vs us Q I r h
 obtain⟨v,vr,e1,h⟩:=h
 subst e1
 cases r with
 | cons r rr =>
  rw [hs]
  refine assignInOrder_cons (aF (h1 pins s Z H _ _ _ I r h) λ_ s1 ⟨Z1,H1,I1,q1⟩=>?_)
  exact h2 pins s1 Z1 H1 _ _ Q I1 rr q1
noncomputable def tV (K:Qb) (n:Nat) (t:jE):TG:=λv Z H Q=>∃a xs,v=.ref a/\SqT K H a xs/\xs.length=n/\t xs Z H Q
theorem qS {es:List Expr}{k:Nat}{t:jE}{n:Nat}(hc:X.calm=true) (h:oO X es t)
  (hn:(assignEach es X.env).length=n:=by rfl) (hst:(assignEach es X.env).findIdx? (·.1)=none:=by rfl):PG X (.Tuple es k pos) (tV X.K n t):=by
 intro pins s Z H v u Q I r hw
 obtain⟨a,xs,e1,hq,hl,hw⟩:=hw
 subst e1
 cases r
 obtain⟨its,rv,ht,hz⟩:=I.tuple hq
 refine assign_Tuple_tuple (I.ok.hd hc) ht (by simp [hn,<-hl,rv.length]) hst λh' hx=>?_
 have I1:Inv X pins Z H { s with heap:=h' }:=I.kept (t':=s.toks) λb o e=>hx b o (cD (Qi e)) e
 exact h pins _ Z H xs _ Q I1 (by simpa using rv) hw
noncomputable def yN (te:TE) (g:TG):TS:=λD Z H=>te Z H λx H1=>g x Z H1 D.nx
theorem qQq {tg e:Expr}{te:TE}{g:TG}(he:PE X e te) (hg:PG X tg g) (hs:swapsWithSole [tg] e pos.line X.env=pure false:=by rfl) (hw:swappedStores [tg] e X.env=pure none:=by rfl)
  (h1:(assignEach [tg] X.env).map (·.2)=[assign tg X.env]:=by rfl):PS X (.Assign [tg] e pos) (yN te g):=by
 intro pins s Z H D I h
 refine wpAny_Assign_stores (aF (he pins s Z H _ I h) λv s1 ⟨x,H1,I1,r1,q1⟩=>?_) hs hw
 rw [h1]
 exact aF (hg pins s1 Z H1 x v _ I1 r1 q1) λ_ s2 q=>q
theorem As {i:Nat}{x:Str}{e:Expr}{te:TE}{pos':Pos}(hN:X.N.Nodup) (hi:X.N[i]?=some x) (hx:mN X.env.scope x) (he:PE X e te) (hs:swapsWith e (some (.Name x pos')) pos.line X.env=pure false:=by rfl) (hf:X.fn x=true∨X.env.scope.names.lookup x=some .local:=by first|exact .inl rfl|exact .inr rfl|assumption) :
  PS X (.Assign [.Name x pos'] e pos) (yN te (j3 i)):=by
 intro pins s Z H D I h
 refine wpAny_Assign_Name (aF (he pins s Z H _ I h) λv s1 ⟨y,H1,I1,r1,q1⟩=>?_) hs
 exact CT I1 hN hi hx r1 (λs2 I2=>⟨_,H1,I2,q1⟩) hf
end
section
variable {X:Cx}{pos:Pos}
def qPT (c:TT) (tb:TS):TS:=λD Z H=>∃W:Nat->St->Hp->Prop,(∃m,W m Z H)/\∀m Z H,W m Z H ->
 c Z H λb H1=>if b=true then ∃N:St->Hp->Prop,(∀Z' H',N Z' H'->∃m',m'<m/\W m' Z' H')/\tb { D with nx:=N,ct:=N,bk:=D.nx } Z H1 else D.nx Z H1
theorem qKI {c:Expr}{body:List Stmt}{tc:TT}{tb:TS}(hp:PassesOwn (model X.prog X.w) X.A X.env X.xe) (hc:PT X c tc) (hb:PSs X body tb):PS X (.While c body [] pos) (qPT tc tb):=by
 intro pins s Z H D I h
 obtain⟨W,⟨m0,w0⟩,turn⟩:=h
 refine wpAny_While (codeAny_whileLoop (λn s'=>∃Z' H',Inv X pins Z' H' s'/\W n Z' H') ?_ m0 ⟨Z,H,I,w0⟩)
 rintro n s1 ⟨Z1,H1,I1,w1⟩
 refine wpAny_passesOwn hp (aF (hc pins s1 Z1 H1 _ I1 (turn n Z1 H1 w1)) λb s2 ⟨H2,I2,q2⟩=>?_)
 cases b with
 | true =>
  obtain⟨N,hN,q2⟩:=q2
  rw [Ql rfl]
  refine wpAny_passesOwn hp (aF (hb pins s2 Z1 H2 _ I2 q2) λf s3 q3=>?_)
  cases f with
  | next =>
   obtain⟨Z3,H3,I3,n3⟩:=q3
   obtain⟨m',hm,w3⟩:=hN Z3 H3 n3
   exact⟨m',hm,Z3,H3,I3,w3⟩
  | cont =>
   obtain⟨Z3,H3,I3,n3⟩:=q3
   obtain⟨m',hm,w3⟩:=hN Z3 H3 n3
   exact⟨m',hm,Z3,H3,I3,w3⟩
  | brk=>exact q3
  | ret v=>exact q3
 | false =>
  rw [Qm fD]
  exact wpAny_execs_nil ⟨Z1,H2,I2,q2⟩
end
structure It where
 go:Nat->Hp->Prop
 yld:Nat->Hp->V->Hp->Prop
 stop:Nat->Hp->Prop
def dZ (X:Cx) (pins:List (Addr×Obj)) (H:Hp) (b:Addr):Prop:=
 H b=none/\b≠X.env.locals/\b∉X.fs/\(b∈X.ex∨X.s₀.heap.objs.size<=b)/\(∀x c,X.env.cells.lookup x=some c->c≠b)/\∀p∈X.pn++pins,p.1≠b
theorem Inv.fpOk {X:Cx}{pins:List (Addr×Obj)}{Z:St}{H H':Hp}{s:Shared}{b:Addr}(I:Inv X pins Z H s) (hb:s.heap.objs.size<=b) (hn:H' b=none):dZ X pins H' b:=by
 refine⟨hn,iv (dy I.lt hb),I.nofs hb,.inr (dR I.sz hb),λx c e z=>?_,λp hp z=>?_⟩
 ·obtain⟨v,q⟩:=I.cell x c e
  exact Qn (dy q.lt (by rw [z];exact hb)) (fX _)
 ·exact Qn (dy (Qi (I.pin p hp).1) (by rw [z];exact hb)) (fX _)
structure Turn (P:Program) (w:World) (K:Qb) (tg:Expr) (J:It) (fp:List Addr) (it:Addr) (tn:Nat->Heap->Prop):Prop where
 mem:it∈fp
 obj:∀i h,tn i h->∀b∈fp,∃o,h.get? b=some o/\∀v,o.data≠.cell v
 keep:∀i h h',tn i h->(∀b∈fp,∀o,h.get? b=some o->h'.get? b=some o)->tn i h'
 item:∀(X:Cx),X.prog=P->X.w=w->X.K=K->X.calm=true->∀(i:Nat) (pins:List (Addr×Obj)) (s:Shared) (Z:St) (H:Hp) (E:Value->Shared->Prop),Inv X pins Z H s->(∀b∈fp,dZ X pins H b)->tn i s.heap->J.go i H ->
  wpAny (model P w) X.A (pyNext (.ref it)) (λr s1=>∃u,r=some u /\
   wpAny (model P w) X.A (letOwnedTupleGo tg (.ref it) u) (λ_ s2=>∃x H',Inv X pins Z H' s2/\RelV x u/\J.yld i H x H'/\tn (i+1) s2.heap/\∀b∈fp,H' b=none) E s1) E s
 done:∀(X:Cx),X.prog=P->X.w=w->X.K=K->X.calm=true->∀(i:Nat) (pins:List (Addr×Obj)) (s:Shared) (Z:St) (H:Hp) (E:Value->Shared->Prop),Inv X pins Z H s->(∀b∈fp,dZ X pins H b)->tn i s.heap->J.stop i H ->
  wpAny (model P w) X.A (pyNext (.ref it)) (λr s1=>r=none/\Inv X pins Z H s1) E s
 self:∀(A:Around) (i:Nat) (s:Shared) (Q:Value->Shared->Prop) (E:Value->Shared->Prop),tn i s.heap->Q (.ref it) s->wpAny (model P w) A (pyIter (.ref it)) Q E s
abbrev TI:=St->Hp->(It->Hp->Prop)->Prop
def oN (X:Cx) (pins:List (Addr×Obj)) (Z:St) (tg:Expr) (R:It->Hp->Prop) (itv:Value) (s2:Shared):Prop:=
 ∃(it:Addr) (fp:List Addr) (tn:Nat->Heap->Prop) (J:It) (H':Hp),itv=.ref it/\Inv X pins Z H' s2/\Turn X.prog X.w X.K tg J fp it tn/\tn 0 s2.heap/\(∀b∈fp,dZ X pins H' b)/\R J H'
def PI (X:Cx) (tg iter:Expr) (wi:TI):Prop:=
 ∀(pins:List (Addr×Obj)) (s:Shared) (Z:St) (H:Hp) (R:It->Hp->Prop),Inv X pins Z H s->wi Z H R ->
   wpAny (model X.prog X.w) X.A (eval iter X.env) (λv s1=>wpAny (model X.prog X.w) X.A (pyIter v) (oN X pins Z tg R) X.xe s1) X.xe s
theorem nB {M:Model}{A:Around}{E:Value->Shared->Prop}{s:Shared}{tg:Expr}{it:Addr}{u:Value}{o:Obj}{n:String}{vs:Array Value}{Q:Unit->Shared->Prop}(ho:s.heap.get? it=some o) (hc:o.cls=.type n) (hd:o.data=.fields vs)
  (hn:["enumerate","zip","dict_itemiterator","dict_reverseitemiterator","odict_iterator","itertools.zip_longest","itertools.pairwise"].contains n=false) (hQ:Q () s):wpAny M A (letOwnedTupleGo tg (.ref it) u) Q E s:=by
 unfold letOwnedTupleGo
 cases tg<;>first
  | exact Qd hQ
  | (cases u<;>first
    | exact Qd hQ
    | (refine Qc (wpAny_load ho ?_)
       rw [hc,hd]
       show wpAny M A (if (["enumerate","zip","dict_itemiterator","dict_reverseitemiterator","odict_iterator","itertools.zip_longest","itertools.pairwise"].contains n&&vs[0]? == some (rawInt _))=true then _ else _) Q E s
       rw [Qm (by intro h;rw [hn,Bool.false_and] at h;cases h)]
       exact Qd hQ))
noncomputable def sd (K:Qb) (a:Addr):It:=
 ⟨λi H=>∃xs x,SqL K H a xs/\xs[i]?=some x,λi H x H'=>H'=H/\∀xs,SqL K H a xs->xs[i]?=some x,λi H=>∃xs,SqL K H a xs/\xs.length<=i⟩
noncomputable def xS (K:Qb) (a:Addr):It:=
 ⟨λi H=>∃xs x,SqT K H a xs/\xs[i]?=some x,λi H x H'=>H'=H/\∀xs,SqT K H a xs->xs[i]?=some x,λi H=>∃xs,SqT K H a xs/\xs.length<=i⟩
noncomputable def rZ (lo:Int) (n:Nat):It:=⟨λi _=>i<n,λi H x H'=>H'=H/\x=.int (lo+i),λi _=>n<=i⟩
theorem qHp {P:Program}{w:World}{K:Qb}{tg:Expr}(a it:Addr):Turn P w K tg (sd K a) [it] it (λi h=>h.IsListIter it a i) where
 mem:=by simp
 obj:=λi h st b hb=>by
  have e:b=it:=by simpa using hb
  subst e
  obtain⟨o,e,c,d⟩:=st
  exact⟨o,e,λv z=>by rw [d] at z;cases z⟩
 keep:=λi h h' st k=>st.at λo e=>k it (by simp) o e
 item:=by
  intro X hP hw hK hc i pins s Z H E I hf st hg
  subst hP hw hK
  obtain⟨xs,x,hq,hx⟩:=hg
  obtain⟨its,rv,p,hz⟩:=I.list hq
  obtain⟨u,hu,ru⟩:=rv.get hx
  obtain⟨f0,f1,f2,f3,f4,f5⟩:=hf it (by simp)
  refine wpAny_pyNext_list_item st p.isList (x:=u) (by simpa using hu) λh' st' sb=>?_
  have I1:Inv X pins Z H { s with heap:=h' }:=I.turned (t':=s.toks) (λb o hb e=>(sb.2 b hb).trans e) f0 f1 f3 f4 f5
  obtain⟨o,e,c,d⟩:=id st'
  exact⟨u,rfl,nB (s:={ s with heap:=h' }) e c d (by decide) ⟨x,H,I1,ru,⟨rfl,λys hy=>by rw [I.list_inj hy hq];exact hx⟩,st',λb hb=>(hf b hb).1⟩⟩
 done:=by
  intro X hP hw hK hc i pins s Z H E I hf st hg
  subst hP hw hK
  obtain⟨xs,hq,hx⟩:=hg
  obtain⟨its,rv,p,hz⟩:=I.list hq
  obtain⟨f0,f1,f2,f3,f4,f5⟩:=hf it (by simp)
  have hl:=rv.length
  exact wpAny_pyNext_list_end (I.ok.hd hc) st p.isList (by simp;omega) λh' eb=>⟨rfl,I.turned (t':=s.toks) (λb o hb e=>eb b o hb e) f0 f1 f3 f4 f5⟩
 self:=λ_ _ _ _ _ st h=>wpAny_pyIter_listiter st h
theorem qGI {P:Program}{w:World}{K:Qb}{tg:Expr}(a it:Addr):Turn P w K tg (xS K a) [it] it (λi h=>h.IsTupleIter it a i) where
 mem:=by simp
 obj:=λi h st b hb=>by
  have e:b=it:=by simpa using hb
  subst e
  obtain⟨o,e,c,d⟩:=st
  exact⟨o,e,λv z=>by rw [d] at z;cases z⟩
 keep:=λi h h' st k=>st.at λo e=>k it (by simp) o e
 item:=by
  intro X hP hw hK hc i pins s Z H E I hf st hg
  subst hP hw hK
  obtain⟨xs,x,hq,hx⟩:=hg
  obtain⟨its,rv,p,hz⟩:=I.tuple hq
  obtain⟨u,hu,ru⟩:=rv.get hx
  obtain⟨f0,f1,f2,f3,f4,f5⟩:=hf it (by simp)
  refine wpAny_pyNext_tuple_item st (show s.heap.IsTuple a its.toArray from p) (x:=u) (by simpa using hu) λh' st' sb=>?_
  have I1:Inv X pins Z H { s with heap:=h' }:=I.turned (t':=s.toks) (λb o hb e=>(sb.2 b hb).trans e) f0 f1 f3 f4 f5
  obtain⟨o,e,c,d⟩:=id st'
  exact⟨u,rfl,nB (s:={ s with heap:=h' }) e c d (by decide) ⟨x,H,I1,ru,⟨rfl,λys hy=>by rw [I.tuple_inj hy hq];exact hx⟩,st',λb hb=>(hf b hb).1⟩⟩
 done:=by
  intro X hP hw hK hc i pins s Z H E I hf st hg
  subst hP hw hK
  obtain⟨xs,hq,hx⟩:=hg
  obtain⟨its,rv,p,hz⟩:=I.tuple hq
  obtain⟨f0,f1,f2,f3,f4,f5⟩:=hf it (by simp)
  have hl:=rv.length
  exact wpAny_pyNext_tuple_end (I.ok.hd hc) st (show s.heap.IsTuple a its.toArray from p) (by simp;omega) λh' eb=>⟨rfl,I.turned (t':=s.toks) (λb o hb e=>eb b o hb e) f0 f1 f3 f4 f5⟩
 self:=λ_ _ _ _ _ st h=>wpAny_pyIter_tupleiter st h
theorem qGJ {P:Program}{w:World}{K:Qb}{tg:Expr}(it:Addr) (lo:Int) (n:Nat):Turn P w K tg (rZ lo n) [it] it (λi h=>IsRangeIter h it (lo+(i:Nat) * 1) ((n:Int) - (i:Nat)) 1) where
 mem:=by simp
 obj:=λi h st b hb=>by
  have e:b=it:=by simpa using hb
  subst e
  exact⟨_,st,λv z=>by
   have z':Data.fields _=Data.cell v:=z
   cases z'⟩
 keep:=λi h h' st k=>k it (by simp) _ st
 item:=by
  intro X hP hw hK hc i pins s Z H E I hf st hg
  subst hP hw hK
  obtain⟨f0,f1,f2,f3,f4,f5⟩:=hf it (by simp)
  have W:=Walks.range (prog:=X.prog) (w:=X.w) (I.ok.hd hc) it lo 1 n
  refine W.item i s _ _ hg st λv h' tk hv st' kk=>?_
  obtain⟨t,rfl⟩:=hv
  have I1:Inv X pins Z H { s with heap:=h',toks:=tk }:=I.turned (λb o hb e=>kk b o (by simpa using hb) e) f0 f1 f3 f4 f5
  refine⟨_,rfl,nB (s:={ s with heap:=h',toks:=tk }) (n:="range_iterator") st' rfl rfl (by decide) ⟨.int (lo+i),H,I1,⟨t,?_⟩,⟨rfl,rfl⟩,st',λb hb=>(hf b hb).1⟩⟩
  rw [Int.mul_one]
 done:=by
  intro X hP hw hK hc i pins s Z H E I hf st hg
  subst hP hw hK
  obtain⟨f0,f1,f2,f3,f4,f5⟩:=hf it (by simp)
  exact wpAny_pyNext_range_end (I.ok.hd hc) st (by have:n<=i:=hg;omega) λh' eb=>⟨rfl,I.turned (t':=s.toks) (λb o hb e=>eb b o hb e) f0 f1 f3 f4 f5⟩
 self:=λ_ _ _ _ _ st h=>wpAny_pyIter_rangeiter st h
end L2
namespace L2
open PySem PySem.Spec PyProof.Rows
section
variable {X:Cx}{tg:Expr}
theorem qKG {pins:List (Addr×Obj)}{Z:St}{H:Hp}{s:Shared}{R:It->Hp->Prop}{E:Value->Shared->Prop}{lo hi:Int}{t u v:Tok}{tk:Nat}(I:Inv X pins Z H s) (h1:-(2^62)<=lo) (h2:lo<2^62) (h3:-(2^62)<=hi) (h4:hi<2^62)
  (q:R (rZ lo (hi - lo).toNat) H):wpAny (model X.prog X.w) X.A (pyIter (.ref s.heap.objs.size)) (oN X pins Z tg R) E { s with heap:=s.heap.push { cls:=.type "range",data:=.fields #[.int lo t,.int hi u,.int 1 v] },toks:=tk }:=by
 refine wpAny_pyIter_range (IsRange.new ..) (small_one h1 h2 h3 h4) ?_
 have I1:Inv X pins Z H { s with heap:=s.heap.push { cls:=.type "range",data:=.fields #[.int lo t,.int hi u,.int 1 v] },toks:=tk }:=I.kept λb o e=>Qg _ e
 refine⟨(s.heap.push { cls:=.type "range",data:=.fields #[.int lo t,.int hi u,.int 1 v] }).objs.size,[(s.heap.push { cls:=.type "range",data:=.fields #[.int lo t,.int hi u,.int 1 v] }).objs.size],_,_,H,rfl,
  I1.kept (t':=tk) λb o e=>Qg _ e,qGJ _ lo (hi - lo).toNat,?_,λb hb=>?_,q⟩
 ·have e1:lo+((0:Nat):Int) * 1=lo:=by simp
  have e2:(((hi - lo).toNat:Nat):Int) - ((0:Nat):Int)=Builtin.Range.rangeSize lo hi 1:=by rw [rangeSize_one];split<;>omega
  show IsRangeIter _ _ (lo+((0:Nat):Int) * 1) ((((hi - lo).toNat:Nat):Int) - ((0:Nat):Int)) 1
  rw [e1,e2]
  exact Qh _ rfl
 ·have e:b=(s.heap.push { cls:=.type "range",data:=.fields #[.int lo t,.int hi u,.int 1 v] }).objs.size:=by simpa using hb
  subst e
  exact I1.fpOk (aK _) (I1.hok.fresh (aK _))
def qTF (ta:TA):TI:=fun Z H R=>ta Z H λvs H1=>∃j:Int,vs=[.int j]/\-(2^62)<=j/\j<2^62/\R (rZ 0 j.toNat) H1
theorem qIh {a:Expr}{ta:TA}{p pos:Pos}(hg:Gl X "range") (hm:X.mg "range"=none) (ha:PA X [a] ta) (hs:starEach [a] X.env=[(false,eval a X.env)]:=by rfl):PI X tg (.Call (.Name "range" p) [a] [] pos) (qTF ta):=by
 intro pins s Z H R I h
 refine Call_ (f9 I hg hm boot_range (gP (aF (ha pos pins s Z H _ I h) λus s1 ⟨vs,H1,I1,r1,q1⟩=>?_) hs rfl))
 obtain⟨j,e,q1,q2,q⟩:=q1
 subst e
 cases r1 with
 | cons r rr =>
  cases rr
  obtain⟨t,rfl⟩:=r
  exact call_range_1 (qKG I1 (by omega) (by omega) q1 q2 (by simpa using q))
noncomputable def qU3 (wi:TI) (g:TG) (tb:TS):TS:=λD Z H=>wi Z H λJ H1=>∃W:Nat->Nat->St->Hp->Prop,(∃m,W 0 m Z H1)/\∀i m Z H,W i m Z H ->
 (J.stop i H/\D.nx Z H)∨(J.go i H/\∃N:St->Hp->Prop,(∀Z' H',N Z' H'->∃m',m'<m/\W (i+1) m' Z' H')/\∀x H',J.yld i H x H'->g x Z H' fun Z2 H2=>tb { D with nx:=N,ct:=N,bk:=D.nx } Z2 H2)
def qT (fp:List Addr) (h:Heap):List (Addr×Obj):=fp.filterMap λb=>(h.get? b).map λo=>(b,o)
theorem mi {fp:List Addr}{h:Heap}{b:Addr}{o:Obj}(hb:b∈fp) (e:h.get? b=some o):(b,o)∈qT fp h:=List.mem_filterMap.mpr ⟨b,hb,by rw [e];rfl⟩
theorem qIm {fp:List Addr}{h:Heap}{p:Addr×Obj}(hp:p∈qT fp h):p.1∈fp/\h.get? p.1=some p.2:=by
 obtain⟨b,hb,e⟩:=List.mem_filterMap.mp hp
 cases q:h.get? b with
 | none=>rw [q] at e;cases e
 | some o =>
  rw [q] at e
  have e':(b,o)=p:=fU e
  subst e'
  exact⟨hb,q⟩
theorem Inv.pinned {pins:List (Addr×Obj)}{Z:St}{H:Hp}{s:Shared}{fp:List Addr}(I:Inv X pins Z H s) (hf:∀b∈fp,dZ X pins H b) (ho:∀b∈fp,∃o,s.heap.get? b=some o/\∀v,o.data≠.cell v):Inv X (pins++qT fp s.heap) Z H s:=
 I.pins_of λp hp=>(ybz.mp hp).elim (λz=>I.pin p (fk _ z)) λz=>by
  obtain⟨hb,e⟩:=qIm z
  obtain⟨f0,f1,f2,_⟩:=hf p.1 hb
  obtain⟨o,e',d⟩:=ho p.1 hb
  rw [e] at e';cases e'
  exact⟨e,f0,f1,f2,d⟩
theorem Inv.unpinned {pins pl:List (Addr×Obj)}{Z:St}{H:Hp}{s:Shared}(I:Inv X (pins++pl) Z H s):Inv X pins Z H s:=I.pins_of λp hp=>I.pin p (fk _ (List.mem_append_left _ hp))
theorem qQo {iter:Expr}{body:List Stmt}{wi:TI}{g:TG}{tb:TS}{pos:Pos}(hp:PassesOwn (model X.prog X.w) X.A X.env X.xe) (hc:X.calm=true) (hi:PI X tg iter wi) (hg:PG X tg g) (hb:PSs X body tb)
  (hs:∀x,foldedSetIterable iter X.env x=pure x:=by intro _;rfl):PS X (.For tg iter body [] pos) (qU3 wi g tb):=by
 intro pins s Z H D I h
 refine wpAny_For (aF (hi pins s Z H _ I h) λv s1 h1=>aF h1 λitv s2 h2=>?_) hs
 obtain⟨it,fp,tn,J,H2,e,I2,T,st2,f2,W,⟨m0,w0⟩,turn⟩:=h2
 subst e
 have stat:∀{H':Hp},(∀b∈fp,H' b=none)->∀b∈fp,dZ X pins H' b:=λhn b hb=>⟨hn b hb,(f2 b hb).2⟩
 refine codeAny_forLoop_any (λn s'=>∃i Z' H',Inv X pins Z' H' s'/\tn i s'.heap/\(∀b∈fp,H' b=none)/\W i n Z' H') ?_ m0 ⟨0,Z,H2,I2,st2,λb hb=>(f2 b hb).1,w0⟩
 rintro n s3 ⟨i,Z3,H3,I3,st3,fr3,w3⟩
 rcases turn i n Z3 H3 w3 with ⟨stop,qn⟩|⟨go,N,hN,step⟩
 ·refine wpAny_passesOwn hp (aF (T.done X rfl rfl rfl hc i pins s3 Z3 H3 X.xe I3 (stat fr3) st3 stop) λr s4 ⟨hr,I4⟩=>?_)
  subst hr
  exact wpAny_execs_nil ⟨Z3,H3,I4,qn⟩
 ·refine wpAny_passesOwn hp (aF (T.item X rfl rfl rfl hc i pins s3 Z3 H3 X.xe I3 (stat fr3) st3 go) λr s4 ⟨u,hr,h4⟩=>?_)
  subst hr
  refine wpAny_passesOwn hp (aF h4 λ_ s5 ⟨x,H5,I5,r5,y5,st5,fr5⟩=>?_)
  have I5':=I5.pinned (stat fr5) (T.obj _ _ st5)
  refine wpAny_passesOwn hp (aF (hg _ s5 Z3 H5 x u _ I5' r5 (step x H5 y5)) λ_ s6 ⟨Z6,H6,I6,q6⟩=>?_)
  refine wpAny_passesOwn hp (aF (hb _ s6 Z6 H6 _ I6 q6) λf s7 q7=>?_)
  have again:∀{Z7:St} {H7:Hp},Inv X (pins++qT fp s5.heap) Z7 H7 s7->N Z7 H7->∃m,m<n/\∃i Z' H',Inv X pins Z' H' s7/\tn i s7.heap/\(∀b∈fp,H' b=none)/\W i m Z' H':=λ{Z7 H7} I7 n7=>by
   obtain⟨m',hm,w7⟩:=hN Z7 H7 n7
   refine⟨m',hm,i+1,Z7,H7,I7.unpinned,T.keep _ _ _ st5 λb hb o e=>(I7.pin (b,o) (fk _ (fk _ (mi hb e)))).1,λb hb=>?_,w7⟩
   obtain⟨o,e,d⟩:=T.obj _ _ st5 b hb
   exact (I7.pin (b,o) (fk _ (fk _ (mi hb e)))).2.1
  cases f with
  | next=>obtain⟨Z7,H7,I7,n7⟩:=q7;exact again I7 n7
  | cont=>obtain⟨Z7,H7,I7,n7⟩:=q7;exact again I7 n7
  | brk=>obtain⟨Z7,H7,I7,q7⟩:=q7;exact⟨Z7,H7,I7.unpinned,q7⟩
  | ret v=>obtain⟨x7,Z7,H7,I7,r7,q7⟩:=q7;exact⟨x7,Z7,H7,I7.unpinned,r7,q7⟩
end
end L2
namespace L2
open PySem PySem.Spec PyProof.Rows
abbrev R2:=V->V->Hp->VK->Prop
def OpR (X:Cx) (f:Value->Value->Sem Value) (r:R2):Prop:=
 ∀(pins:List (Addr×Obj)) (s:Shared) (Z:St) (H:Hp) (x y:V) (v u:Value) (Q:VK),Inv X pins Z H s->RelV x v->RelV y u->r x y H Q ->
   wpAny (model X.prog X.w) X.A (f v u) (EP X pins Z Q) X.xe s
def xP (X:Cx) (f:Value->Sem Value) (r:V->Hp->VK->Prop):Prop:=
 ∀(pins:List (Addr×Obj)) (s:Shared) (Z:St) (H:Hp) (x:V) (v:Value) (Q:VK),Inv X pins Z H s->RelV x v->r x H Q ->
   wpAny (model X.prog X.w) X.A (f v) (EP X pins Z Q) X.xe s
def CallR (X:Cx) (f:Value) (r:List V->Hp->VK->Prop):Prop:=
 ∀(pins:List (Addr×Obj)) (s:Shared) (Z:St) (H:Hp) (xs:List V) (us:List Value) (Q:VK),Inv X pins Z H s->Vals xs us->r xs H Q ->
   wpAny (model X.prog X.w) X.A (call f us) (EP X pins Z Q) X.xe s
noncomputable def pP (r:R2) (ta tb:TE):TE:=fun Z H Q=>ta Z H λx H1=>tb Z H1 λy H2=>r x y H2 Q
noncomputable def tUn (r:V->Hp->VK->Prop) (ta:TE):TE:=fun Z H Q=>ta Z H λx H1=>r x H1 Q
noncomputable def rI (C:Int->Int->Prop) (g:Int->Int->V):R2:=λx y H Q=>∃i j,x=.int i/\y=.int j/\C i j/\Q (g i j) H
noncomputable def iB (g:Int->Int->V):R2:=λx y H Q=>∃i j,x=.int i/\y=.int j/\Q (g i j) H
def rU (g:Int->V):V->Hp->VK->Prop:=λx H Q=>∃i,x=.int i/\Q (g i) H
section
variable {X:Cx}{a b c:Expr}{ta tb tc:TE}{pos:Pos}
theorem tX (ha:PE X a ta) (hb:PE X b tb) {pins:List (Addr×Obj)}{s:Shared}{Z:St}{H:Hp}{R:V->V->Hp->Prop}(I:Inv X pins Z H s)
  (h:ta Z H λx H1=>tb Z H1 λy H2=>R x y H2) {Q:Value->Shared->Prop}{f:Value->Value->Sem Value}
  (hf:∀v u s2 x y H2,Inv X pins Z H2 s2->RelV x v->RelV y u->R x y H2->wpAny (model X.prog X.w) X.A (f v u) Q X.xe s2) :
  wpAny (model X.prog X.w) X.A (eval a X.env) (λv s₁=>wpAny (model X.prog X.w) X.A (eval b X.env) (λu s₂=>wpAny (model X.prog X.w) X.A (f v u) Q X.xe s₂) X.xe s₁) X.xe s:=by
 refine aF (ha pins s Z H _ I h) λv s1 ⟨x,H1,I1,r1,q1⟩=>?_
 refine aF (hb pins s1 Z H1 _ I1 q1) λu s2 ⟨y,H2,I2,r2,q2⟩=>?_
 exact hf v u s2 x y H2 I2 r1 r2 q2
theorem qTi {op:Operator}{r:R2}(ho:OpR X (binaryOp op) r) (ha:PE X a ta) (hb:PE X b tb):PE X (.BinOp a op b pos) (pP r ta tb):=by
 intro pins s Z H Q I h
 exact wpAny_BinOp (tX ha hb I h λv u s2 x y H2 I2 rx ry q=>ho pins s2 Z H2 x y v u Q I2 rx ry q)
theorem qTg {op:UnaryOp}{r:V->Hp->VK->Prop}(ho:xP X (unaryOp op) r) (ha:PE X a ta):PE X (.UnaryOp op a pos) (tUn r ta):=by
 intro pins s Z H Q I h
 exact UnaryOp_ (aF (ha pins s Z H _ I h) λv s1 ⟨x,H1,I1,r1,q1⟩=>ho pins s1 Z H1 x v Q I1 r1 q1)
theorem iT {f:Value->Value->Sem Value}{C:Int->Int->Prop}{g:Int->Int->Int}
  (rule:∀(i j:Int) (t u:Tok) (s:Shared) (Q:Value->Shared->Prop) (E:Value->Shared->Prop),C i j->Q (.int (g i j) s.toks) { s with toks:=s.toks+1 }->wpAny (model X.prog X.w) X.A (f (.int i t) (.int j u)) Q E s) :
  OpR X f (rI C λi j=>.int (g i j)):=by
 intro pins s Z H x y v u Q I rx ry h
 obtain⟨i,j,rfl,rfl,hc,q⟩:=h
 obtain⟨t,rfl⟩:=rx
 obtain⟨t',rfl⟩:=ry
 exact rule i j t t' s _ _ hc ⟨.int (g i j),H,I.tok _,⟨_,rfl⟩,q⟩
theorem yK {f:Value->Value->Sem Value}{g:Int->Int->Int}
  (rule:∀(i j:Int) (t u:Tok) (s:Shared) (Q:Value->Shared->Prop) (E:Value->Shared->Prop),Q (.int (g i j) s.toks) { s with toks:=s.toks+1 }->wpAny (model X.prog X.w) X.A (f (.int i t) (.int j u)) Q E s) :
  OpR X f (iB λi j=>.int (g i j)):=by
 intro pins s Z H x y v u Q I rx ry h
 obtain⟨i,j,rfl,rfl,q⟩:=h
 obtain⟨t,rfl⟩:=rx
 obtain⟨t',rfl⟩:=ry
 exact rule i j t t' s _ _ ⟨.int (g i j),H,I.tok _,⟨_,rfl⟩,q⟩
theorem pY {f:Value->Value->Sem Value}{g:Int->Int->Bool}
  (rule:∀(i j:Int) (t u:Tok) (s:Shared) (Q:Value->Shared->Prop) (E:Value->Shared->Prop),Q (.bool (g i j)) s->wpAny (model X.prog X.w) X.A (f (.int i t) (.int j u)) Q E s) :
  OpR X f (iB λi j=>.bl (g i j)):=by
 intro pins s Z H x y v u Q I rx ry h
 obtain⟨i,j,rfl,rfl,q⟩:=h
 obtain⟨t,rfl⟩:=rx
 obtain⟨t',rfl⟩:=ry
 exact rule i j t t' s _ _ ⟨.bl (g i j),H,I,rfl,q⟩
def qVG (i j:Int):Prop:=0<=j/\j<=1000000/\i.natAbs<2^64
theorem qGH (k:Nat):(0:Int)<=2^k:=by
 rw [two_pow_cast]
 exact Int.natCast_nonneg _
theorem op_add:OpR X (binaryOp .Add) (iB λi j=>.int (i+j)):=yK λ_ _ _ _ _ _ _ q=>add_int q
theorem qQJ:OpR X (binaryOp .Sub) (iB λi j=>.int (i - j)):=yK λ_ _ _ _ _ _ _ q=>sub_int q
theorem qQL:OpR X (binaryOp .LShift) (rI qVG λi j=>.int (i * 2^j.toNat)):=iT λ_ _ _ _ _ _ _ hc q=>lshift_int_small hc.1 hc.2.1 hc.2.2 q
theorem qQK:OpR X (binaryOp .RShift) (rI (λ_ j=>0<=j) λi j=>.int (i / 2^j.toNat)):=iT λi j _ _ _ _ _ hc q =>
 rshift_int hc (by rw [Int.fdiv_eq_ediv_of_nonneg i (qGH _)];exact q)
theorem unI {f:Value->Sem Value}{g:Int->Int}
  (rule:∀(i:Int) (t:Tok) (s:Shared) (Q:Value->Shared->Prop) (E:Value->Shared->Prop),Q (.int (g i) s.toks) { s with toks:=s.toks+1 }->wpAny (model X.prog X.w) X.A (f (.int i t)) Q E s) :
  xP X f (rU λi=>.int (g i)):=by
 intro pins s Z H x v Q I rx h
 obtain⟨i,rfl,q⟩:=h
 obtain⟨t,rfl⟩:=rx
 exact rule i t s _ _ ⟨.int (g i),H,I.tok _,⟨_,rfl⟩,q⟩
theorem qPx:xP X (unaryOp .USub) (rU λi=>.int (-i)):=unI λ_ _ _ _ _ q=>neg_int q
end
section
variable {X:Cx}{a b c:Expr}{ta tb tc:TE}{pos:Pos}
theorem qTm:OpR X (compareOp .Lt) (iB λi j=>.bl (decide (i<j))):=pY λ_ _ _ _ _ _ _ q=>lt_int q
theorem qTn:OpR X (compareOp .LtE) (iB λi j=>.bl (decide (i<=j))):=pY λ_ _ _ _ _ _ _ q=>le_int q
theorem qTo:OpR X (compareOp .Gt) (iB λi j=>.bl (decide (j<i))):=pY λ_ _ _ _ _ _ _ q=>gt_int q
theorem qTp:OpR X (compareOp .GtE) (iB λi j=>.bl (decide (j<=i))):=pY λ_ _ _ _ _ _ _ q=>ge_int q
theorem OpR.or {f:Value->Value->Sem Value}{r r':R2}(h:OpR X f r) (h':OpR X f r'):OpR X f (λx y H Q=>r x y H Q∨r' x y H Q):=by
 intro pins s Z H x y v u Q I rx ry q
 rcases q with q|q
 ·exact h pins s Z H x y v u Q I rx ry q
 ·exact h' pins s Z H x y v u Q I rx ry q
theorem qQU (b:Expr) {op:CmpOp}(h:op≠.In:=by decide) (h2:op≠.NotIn:=by decide):behindInMarks op b=false:=by
 have e1:(op == CmpOp.In)=false:=by cases op<;>first|rfl|exact Qn rfl h
 have e2:(op == CmpOp.NotIn)=false:=by cases op<;>first|rfl|exact Qn rfl h2
 cases b<;>simp [behindInMarks,e1,e2]
theorem Bm {op:CmpOp}{r:R2}(ho:OpR X (compareOp op) r) (ha:PE X a ta) (hb:PE X b tb) (hm:behindInMarks op b=false):PE X (.Compare a [op] [b] pos) (pP r ta tb):=by
 intro pins s Z H Q I h
 exact wpAny_Compare1 (tX ha hb I h λv u s2 x y H2 I2 rx ry q=>ho pins s2 Z H2 x y v u Q I2 rx ry q) hm
noncomputable def qSR (t:TE):TT:=fun Z H Q=>t Z H λx H'=>∃k,x=.bl k/\Q k H'
theorem B5 {op:CmpOp}{r:R2}(ho:OpR X (compareOp op) r) (ha:PE X a ta) (hb:PE X b tb) (hm:behindInMarks op b=false):PT X (.Compare a [op] [b] pos) (qSR (pP r ta tb)):=by
 intro pins s Z H Q I h
 refine wpAny_isTrue_Compare1 (aF (ha pins s Z H _ I h) λv s1 ⟨x,H1,I1,r1,q1⟩=>aF (hb pins s1 Z H1 _ I1 q1) λu s2 ⟨y,H2,I2,r2,q2⟩ =>
  aF (ho pins s2 Z H2 x y v u _ I2 r1 r2 q2) λc s3 ⟨z,H3,I3,r3,k,e,q3⟩=>?_) hm
 subst e
 cases r3
 exact wpAny_truthy_bool ⟨H3,I3,q3⟩
theorem uC:(sizeLine:Nat)<2^63:=by rw [sizeLine_eq];decide
theorem qGV:OpR X (binaryOp .Add) (λx y H Q=>∃i j,x=.str i/\y=.str j/\i.length+j.length<=sizeLine/\Q (.str (i++j)) H):=by
 intro pins s Z H x y v u Q I rx ry h
 obtain⟨i,j,rfl,rfl,hz,q⟩:=h
 obtain⟨t,rfl⟩:=rx
 obtain⟨t',rfl⟩:=ry
 exact add_str (λt' tk=>⟨.str (i++j),H,I.tok _,⟨_,rfl⟩,q⟩) hz
theorem eY {x:V}{us:List Value}(r:Vals [x] us):∃u,us=[u]/\RelV x u:=by
 cases r with
 | cons r1 r2=>cases r2;exact⟨_,rfl,r1⟩
theorem ur {x y:V}{us:List Value}(r:Vals [x,y] us):∃u w',us=[u,w']/\RelV x u/\RelV y w':=by
 cases r with
 | cons r1 r2 =>
  cases r2 with
  | cons r3 r4=>cases r4;exact⟨_,_,rfl,r1,r3⟩
theorem qJp (hc:X.calm=true):CallR X (.builtin "max") (λxs H Q=>∃i j,xs=[.int i,.int j]/\Q (.int (if j > i then j else i)) H):=by
 intro pins s Z H xs us Q I r h
 obtain⟨i,j,rfl,q⟩:=h
 obtain⟨u,w',rfl,⟨t,rfl⟩,⟨t',rfl⟩⟩:=ur r
 refine max_two_ints (I.ok.hd hc) λh' tk k=>⟨_,H,I.kept k,?_,q⟩
 by_cases hj:j > i
 ·rw [Ql hj,Ql hj];exact⟨_,rfl⟩
 ·rw [Qm hj,Qm hj];exact⟨_,rfl⟩
theorem qJm (hc:X.calm=true):CallR X (.builtin "min") (λxs H Q=>∃i j,xs=[.int i,.int j]/\Q (.int (if j<i then j else i)) H):=by
 intro pins s Z H xs us Q I r h
 obtain⟨i,j,rfl,q⟩:=h
 obtain⟨u,w',rfl,⟨t,rfl⟩,⟨t',rfl⟩⟩:=ur r
 refine min_two_ints (I.ok.hd hc) λh' tk k=>⟨_,H,I.kept k,?_,q⟩
 by_cases hj:j<i
 ·rw [Ql hj,Ql hj];exact⟨_,rfl⟩
 ·rw [Qm hj,Qm hj];exact⟨_,rfl⟩
theorem qJs:CallR X (.type "int") (λxs H Q=>(∃i,xs=[.int i]/\Q (.int i) H)∨∃k,xs=[.bl k]/\Q (.int (if k then 1 else 0)) H):=by
 intro pins s Z H xs us Q I r h
 rcases h with ⟨i,rfl,q⟩|⟨k,rfl,q⟩
 ·obtain⟨u,rfl,t,rfl⟩:=eY r
  exact call_int_int ⟨.int i,H,I,⟨_,rfl⟩,q⟩
 ·obtain⟨u,rfl,r1⟩:=eY r
  cases r1
  exact call_int_bool ⟨.int (if k then 1 else 0),H,I.tok _,⟨_,rfl⟩,q⟩
end
end L2
namespace L2
open PySem PySem.Spec PyProof.Rows
structure ObjM (h:Heap) (x dx C:Addr) (mA:Str->Option Value):Prop where
 obj:h.get? x=some (PySem.W.instObj C dx)
 ns:h.Ns1 dx mA
 ne:dx≠x
theorem qIz {h:Heap}{dx:Addr}{mA:Str->Option Value}(n:h.Ns1 dx mA):∃od,h.get? dx=some od/\∀name,PySem.W.lookIn name od=some (mA name):=by
 obtain⟨o,es,ep,ho,hd,hk,_,hm⟩:=n
 refine⟨o,ho,λname=>?_⟩
 have e:=hm name
 unfold nsFind findBy at e
 rw [<-Array.find?_toList] at e
 unfold PySem.W.lookIn
 rw [hd]
 dsimp only
 split
 ·rename_i y q
  rw [q] at e
  exact congrArg some e
 ·rename_i q
  rw [q] at e
  have a:es.toList.any (·.refKey)=false:=by
   rw [List.any_eq_false]
   intro y hy
   obtain⟨z,t,hkey⟩:=hk y (Array.mem_toList_iff.mp hy)
   simp [DictEntry.refKey,hkey]
  have a':¬es.toList.any (·.refKey)=true:=by rw [a];exact fD
  rw [Qm a']
  exact congrArg some e
theorem ObjM.look {h:Heap}{x dx C:Addr}{mA:Str->Option Value}(I:ObjM h x dx C mA):∃od,PySem.W.InstAt h x (PySem.W.instObj C dx) C (some od)/\∀name,PySem.W.lookIn name od=some (mA name):=
 let ⟨od,ho,hl⟩:=qIz I.ns
 ⟨od,⟨I.obj,rfl,rfl,ho⟩,hl⟩
section
variable {prog:Program}{w:World}{A:Around}{E:Value->Shared->Prop}{s:Shared}{K:Qb}{x dx C f:Addr}{mA:Str->Option Value}{name:Str}{v:Value}
theorem qOJ {expr:Bool}{Q:Value->Shared->Prop}(X:K.In s.heap) (I:ObjM s.heap x dx C mA) (hg:PySem.W.plainGet K C name=true) (hh:PySem.W.hasDictIn K C=true)
  (ha:PySem.W.findIn K (.ref C) name=some none) (hv:mA name=some v) (hv':PySem.W.handedIn v=true) (h:Q v { s with toks:=s.toks+1 }) :
  wpAny (model prog w) A (getAttr (.ref x) name expr) Q E s:=by
 obtain⟨od,J,hl⟩:=I.look
 exact PySem.W.get_value X J (tE hg).1 (PySem.W.findObj_own hh ha rfl (by rw [hl,hv])) hv' h
theorem qLh {pl:Sem Bool}{Q:Value×List Value->Shared->Prop}(X:K.In s.heap) (I:ObjM s.heap x dx C mA) (hg:PySem.W.plainGet K C name=true)
  (hf:PySem.W.findIn K (.ref C) name=some (some (.ref f))) (ht:PySem.W.isFn K (.ref f)=true) (hv:mA name=none) (h:Q (.ref f,[.ref x]) s) :
  wpAny (model prog w) A (getMethod (.ref x) name pl) Q E s:=by
 obtain⟨od,J,hl⟩:=I.look
 exact PySem.W.method_fn X J (tE hg).1 (tE hg).2 hf (beq_iff_eq.mp ht) (by show (PySem.W.lookIn name od).map (·.isSome)=some false;rw [hl,hv];rfl) h
theorem qNO {ns:List Str}{Q:Unit->Shared->Prop}(X:K.In s.heap) (I:ObjM s.heap x dx C mA)
  (hs:PySem.W.findIn K (.ref C) "__setattr__"=some (some (.builtin "object.__setattr__"))) (hp:PySem.W.plainOver K C=true) (ht:PySem.W.takerIn K C name=some none) (hh:PySem.W.hasDictIn K C=true)
  (hw:PySem.Within mA ns) (hsz:ns.length<=sizeLine)
  (h:∀h',ObjM h' x dx C (λy=>if y=name then some v else mA y)->Heap.SameBut dx s.heap h'->Q () { s with heap:=h',toks:=s.toks+2 }) :
  wpAny (model prog w) A (setAttr (.ref x) name v) Q E s:=by
 obtain⟨od,J,hl⟩:=I.look
 refine PySem.W.set_plain X J hs (PySem.W.osa_open (s:={ s with toks:=s.toks+1 }) (r:=none) X J hp ht λb=>?_)
 obtain⟨cd,hc,hd'⟩:=PySem.W.any_some hh
 have hx:s.heap.get? x=some ⟨.ref C,some dx,.plain,#[]⟩:=I.obj
 refine Qc (Qd (Qc (Qc (wpAny_loadPart hx (Qc (PySem.W.Looks.here (s:={ s with toks:=s.toks+1 }) (PySem.W.looks_clsIn X hc) ?_))))))
 rw [hd']
 refine Qd (a:=some dx) (Qc (Qd (Qc ?_)))
 refine wpAny_nsSet1 (s:={ s with toks:=s.toks+1 }) I.ns λh' hn2 hs2=>?_
 obtain⟨oD,esD,epD,hoD,hdD,hcD⟩:=hn2.count (PySem.Within.cons name v hw)
 refine Qc (wpAny_lookBehind hoD (by rw [hdD];exact pastItsLine_dict (dR hcD (by rw [fW];omega))) ?_)
 exact Qd (h _ ⟨(hs2.2 _ (Ne.symm I.ne)).trans I.obj,hn2,I.ne⟩ hs2)
theorem qK5 {R:Result->Shared->Prop}{vs:List Value}{kw:List (Str×Value)}(X:K.In s.heap) (hm:PySem.W.makesIn K C=true)
  (hi:PySem.W.findIn K (.ref C) "__init__"=some (some (.ref f))) (hf:PySem.W.typeIn K (.ref f)=some (.type "function"))
  (h:codeAny (model prog w) (A.under (.builtin "type.__call__" ⟨.ref C::vs,kw⟩)) (.call (.ref f) ⟨.ref (s.heap.objs.size+1)::vs,kw⟩) (PySem.W.InitBack (s.heap.objs.size+1) R)
   { s with heap:=(s.heap.push PySem.W.emptyDict).push (PySem.W.instObj C s.heap.objs.size) }) :
  codeAny (model prog w) A (.call (.ref C) ⟨vs,kw⟩) R s:=by
 obtain⟨hh,g,d,t,os⟩:=s
 exact PySem.W.make_core (sY X hm) (PySem.W.looks_findIn X hi) (λself=>PySem.W.bind_fn X self hf) (.inl rfl) h
theorem qIv {R:Result->Shared->Prop}(X:K.In s.heap) (hm:PySem.W.makesIn K C=true)
  (hi:PySem.W.findIn K (.ref C) "__init__"=some (some (.builtin "object.__init__")))
  (hb:∀self,PySem.W.Looks (model prog w) s.heap (bindSpecial (.builtin "object.__init__") self) (.builtin "object.__init__",[self]))
  (h:codeAny (model prog w) (A.under (.builtin "type.__call__" ⟨[.ref C],[]⟩)) (.call (.builtin "object.__init__") ⟨[.ref (s.heap.objs.size+1)],[]⟩) (PySem.W.InitBack (s.heap.objs.size+1) R)
   { s with heap:=(s.heap.push PySem.W.emptyDict).push (PySem.W.instObj C s.heap.objs.size) }) :
  codeAny (model prog w) A (.call (.ref C) ⟨[],[]⟩) R s:=by
 obtain⟨hh,g,d,t,os⟩:=s
 exact PySem.W.make_core (sY X hm) (PySem.W.looks_findIn X hi) hb (.inr ⟨rfl,rfl⟩) h
end
noncomputable def cY (f:Str) (v:V):List (Str×V)->List (Str×V)
 | []=>[(f,v)]
 | (g,x)::r=>if g=f then (g,v)::r else (g,x)::cY f v r
theorem rN (f g:Str) (v:V):∀fs:List (Str×V),(cY f v fs).lookup g=if g=f then some v else fs.lookup g
 | []=>by
  show List.lookup g [(f,v)]=_
  by_cases h:g=f
  ·have hb:(g == f)=true:=beq_iff_eq.mpr h
   simp only [List.lookup,hb,Ql h]
  ·have hb:(g == f)=false:=beq_eq_false_iff_ne.mpr h
   simp only [List.lookup,hb,Qm h]
 | (k,x)::r=>by
  have ih:=rN f g v r
  rw [show cY f v ((k,x)::r)=(if k=f then (k,v)::r else (k,x)::cY f v r) from rfl]
  by_cases hk:k=f
  ·rw [Ql hk]
   by_cases h:g=k
   ·have hb:(g == k)=true:=beq_iff_eq.mpr h
    simp only [List.lookup,hb,Ql (h.trans hk)]
   ·have hb:(g == k)=false:=beq_eq_false_iff_ne.mpr h
    simp only [List.lookup,hb,Qm (λe:g=f=>h (e.trans hk.symm))]
  ·rw [Qm hk]
   by_cases h:g=k
   ·have hb:(g == k)=true:=beq_iff_eq.mpr h
    simp only [List.lookup,hb,Qm (λe:g=f=>hk (h.symm.trans e))]
   ·have hb:(g == k)=false:=beq_eq_false_iff_ne.mpr h
    simp only [List.lookup,hb]
    exact ih
theorem vn (f:Str) (v:V):∀fs:List (Str×V),f∈(cY f v fs).map (·.1)/\∀g,g∈fs.map (·.1)->g∈(cY f v fs).map (·.1)
 | []=>⟨by simp [cY],λg h=>by simp at h⟩
 | (k,x)::r=>by
  obtain⟨i1,i2⟩:=vn f v r
  rw [show cY f v ((k,x)::r)=(if k=f then (k,v)::r else (k,x)::cY f v r) from rfl]
  by_cases hk:k=f
  ·rw [Ql hk]
   subst hk
   exact⟨by simp,λg h=>by simpa using h⟩
  ·rw [Qm hk]
   refine⟨?_,λg h=>?_⟩
   ·rw [gQ]
    exact dM _ i1
   ·rw [gQ] at h ⊢
    rcases yag.mp h with e|e
    ·exact yag.mpr (.inl e)
    ·exact dM _ (i2 g e)
theorem Dm (f:Str) (v:V):∀fs:List (Str×V),(cY f v fs).length<=fs.length+1
 | []=>by simp [cY]
 | (k,x)::r=>by
  have ih:=Dm f v r
  rw [show cY f v ((k,x)::r)=(if k=f then (k,v)::r else (k,x)::cY f v r) from rfl]
  by_cases hk:k=f
  ·rw [Ql hk,fW,fW];omega
  ·rw [Qm hk,fW,fW];omega
theorem RelO.some_of {v:V}{o:Option Value}(r:RelO (some v) o):∃u,o=some u/\RelV v u:=by
 cases o with
 | none=>exact (show False from r).elim
 | some u=>exact⟨u,rfl,r⟩
theorem RelO.none_of {o:Option Value}(r:RelO none o):o=none:=by
 cases o with
 | none=>rfl
 | some u=>exact (show False from r).elim
theorem qIK {v:V}{u:Value}(r:RelV v u):PySem.W.handedIn u=true:=by
 cases v with
 | non=>cases (show u=Value.none from r);rfl
 | bl b=>cases (show u=Value.bool b from r);rfl
 | int i=>obtain⟨t,e⟩:=(show ∃t,u=Value.int i t from r);cases e;rfl
 | str x=>obtain⟨t,e⟩:=(show ∃t,u=Value.str x t from r);cases e;rfl
 | byt b=>obtain⟨t,e⟩:=(show ∃t,u=Value.bytes b t from r);cases e;rfl
 | flt b=>obtain⟨t,e⟩:=(show ∃t,u=Value.float b t from r);cases e;rfl
 | ref a=>cases (show u=Value.ref a from r);rfl
 | ty n=>cases (show u=Value.type n from r);rfl
section
variable {P:Program}{w:World}{H H':Hp}{h h':Heap}{a C dx:Addr}{fs fs':List (Str×V)}
theorem u6 (hok:HOk P w H h) (e:H a=some (.ins C dx fs)):∃mA,ObjM h a dx C mA/\(∀f,RelO (fs.lookup f) (mA f))/\PySem.Within mA (fs.map (·.1))/\fs.length<=1000/\H dx=some (.own a):=by
 obtain⟨d,z,ne,ob,mA,n,r,q⟩:=(show ObjOk P w H h a (.ins C dx fs) from hok a _ e)
 exact⟨mA,⟨ob,n,ne⟩,r,q,z,d⟩
end
structure Cls (K:Qb) (C:Addr):Prop where
 pg:PySem.W.plainGet K C Str.empty=true
 hd:PySem.W.hasDictIn K C=true
 po:PySem.W.plainOver K C=true
 sa:PySem.W.findIn K (.ref C) "__setattr__"=some (some (.builtin "object.__setattr__"))
theorem Cls.get {K:Qb}{C:Addr}(c:Cls K C) (f:Str):PySem.W.plainGet K C f=true:=c.pg
def NoAttr (K:Qb) (C:Addr) (f:Str):Prop:=PySem.W.findIn K (.ref C) f=some none
theorem NoAttr.taker {K:Qb}{C:Addr}{f:Str}(n:NoAttr K C f):PySem.W.takerIn K C f=some none:=by
 unfold PySem.W.takerIn
 rw [show PySem.W.findIn K (.ref C) f=some none from n]
 rfl
structure Con (K:Qb) (C:Addr) (f:Str) (v:V) (u:Value):Prop where
 at_:PySem.W.findIn K (.ref C) f=some (some u)
 rel:RelV v u
 get:PySem.W.specialIn K u "__get__"=some none
 cp:PySem.W.copiedNames.contains f=false
structure Meth (K:Qb) (C:Addr) (m:Str) (f:Addr):Prop where
 at_:PySem.W.findIn K (.ref C) m=some (some (.ref f))
 fn:PySem.W.isFn K (.ref f)=true
 kp:PySem.W.keepIn K (.ref f)=true
section
variable {X:Cx}{pins:List (Addr×Obj)}{Z:St}{H:Hp}{s:Shared}{a C dx:Addr}{fs:List (Str×V)}{f:Str}{v:V}{A:Around}{E:Value->Shared->Prop}
theorem qG3 {b:Bool}{Q:Value->Shared->Prop}(I:Inv X pins Z H s) (e:H a=some (.ins C dx fs)) (c:Cls X.K C) (n:NoAttr X.K C f) (l:fs.lookup f=some v)
  (h:∀u s',Inv X pins Z H s'->RelV v u->Q u s'):wpAny (model X.prog X.w) A (getAttr (.ref a) f b) Q E s:=by
 obtain⟨mA,O,r,_,_,_⟩:=u6 I.hok e
 obtain⟨u,hu,ru⟩:=RelO.some_of (v:=v) (o:=mA f) (by rw [<-l];exact r f)
 exact qOJ I.kIn O (c.get f) c.hd n hu (qIK ru) (h u _ (I.tok _) ru)
theorem Ds {m:Str}{g:Addr}{pl:Sem Bool}{Q:Value×List Value->Shared->Prop}(I:Inv X pins Z H s) (e:H a=some (.ins C dx fs)) (c:Cls X.K C) (k:Meth X.K C m g) (l:fs.lookup m=none)
  (h:Q (.ref g,[.ref a]) s):wpAny (model X.prog X.w) A (getMethod (.ref a) m pl) Q E s:=by
 obtain⟨mA,O,r,_,_,_⟩:=u6 I.hok e
 have hn:mA m=none:=RelO.none_of (by rw [<-l];exact r m)
 exact qLh I.kIn O (c.get m) k.at_ k.fn hn h
theorem qGR {y:V}{u:Value}{Q:Unit->Shared->Prop}(I:Inv X pins Z H s) (e:H a=some (.ins C dx fs)) (c:Cls X.K C) (n:NoAttr X.K C f) (hl:fs.length<1000) (ry:RelV y u)
  (h:∀s',Inv X pins Z (aA H a (.ins C dx (cY f y fs))) s'->Q () s'):wpAny (model X.prog X.w) A (setAttr (.ref a) f u) Q E s:=by
 obtain⟨mA,O,r,wi,_,ho⟩:=u6 I.hok e
 have hz:(fs.map (·.1)).length<=sizeLine:=by rw [fV,sizeLine_eq];omega
 refine qNO I.kIn O c.sa c.po n.taker c.hd wi hz λh' O' sb=>h _ ?_
 have hd:∃o,h'.get? dx=some o:=let ⟨o,_,_,e',_⟩:=O'.ns;⟨o,e'⟩
 refine I.write (x:=a) (e:=dx) (by rw [e];exact True.intro) (.inr ho) (λb q hb z=>(sb.2 b hb).trans z) hd ?_
 refine⟨by rw [aX O.ne];exact ho,?_,O.ne,O'.obj,_,O'.ns,λg=>?_,λg hg=>?_⟩
 ·have:=Dm f y fs;omega
 ·show RelO ((cY f y fs).lookup g) (if g=f then some u else mA g)
  rw [rN]
  by_cases q:g=f
  ·rw [Ql q,Ql q];exact ry
  ·rw [Qm q,Qm q];exact r g
 ·by_cases q:g=f
  ·rw [q];exact (vn f y fs).1
  ·refine (vn f y fs).2 g (wi g λz=>hg ?_)
   show (if g=f then some u else mA g)=none
   rw [Qm q];exact z
theorem Inv.made (I:Inv X pins Z H s):Inv X pins Z (aA (aA H s.heap.objs.size (.own (s.heap.objs.size+1))) (s.heap.objs.size+1) (.ins C s.heap.objs.size []))
  { s with heap:=(s.heap.push PySem.W.emptyDict).push (PySem.W.instObj C s.heap.objs.size) }:=by
 have e1:(s.heap.push PySem.W.emptyDict).get? s.heap.objs.size=some PySem.W.emptyDict:=Qh s.heap rfl
 have e2:((s.heap.push PySem.W.emptyDict).push (PySem.W.instObj C s.heap.objs.size)).get? (s.heap.objs.size+1)=some (PySem.W.instObj C s.heap.objs.size):=by
  have:=Qh (s.heap.push PySem.W.emptyDict) (o:=PySem.W.instObj C s.heap.objs.size) rfl
  rwa [Heap.size_push] at this
 have e3:(s.heap.push PySem.W.emptyDict).Ns s.heap.objs.size (λ_=>none):=⟨PySem.W.emptyDict,#[],_,e1,rfl,(λe he=>Qn he (by simp)),λ_=>rfl⟩
 have I1:=I.laid (a:=s.heap.objs.size) (o:=.own (s.heap.objs.size+1)) (h':=s.heap.push PySem.W.emptyDict) (t':=s.toks) (λb u q=>Qg _ q) (aK _) ⟨_,e1⟩
 refine I1.laid (a:=s.heap.objs.size+1) (o:=.ins C s.heap.objs.size []) (t':=s.toks) (λb u q=>Qg _ q) (Nat.le_of_eq (Heap.size_push _ _)) ?_
 have ne:s.heap.objs.size≠s.heap.objs.size+1:=cD (sX _)
 refine⟨by rw [aX ne,ef],fq _,ne,e2,λ_=>none,(Heap.Ns1.of_empty e3).at λo q=>Qg _ q,λ_=>True.intro,λy hy=>Qn rfl hy⟩
theorem qPb {prog:Program}{w:World}{env:Env}{e:Expr}{f:Str}{pos:Pos}{s:Shared}{Q:Value->Shared->Prop}(hb:attributeBase e f env (eval e env)=eval e env)
  (h:wpAny (model prog w) A (eval e env) (λo s₁=>wpAny (model prog w) A (getAttr o f true) Q E s₁) E s):wpAny (model prog w) A (eval (.Attribute e f pos) env) Q E s:=
 Attribute_any_ h (by rw [arm_eval_Attribute,hb])
end
def qU4 (K:Qb) (ta:TE) (f:Str):TE:=fun Z H Q=>ta Z H λx H1=>∃a C dx fs v,x=.ref a/\H1 a=some (.ins C dx fs)/\Cls K C/\NoAttr K C f/\fs.lookup f=some v/\Q v H1
def qVa (K:Qb) (ta tv:TE) (f:Str):TS:=λD Z H=>tv Z H λy H1=>ta Z H1 λx H2=>∃a C dx fs,x=.ref a/\H2 a=some (.ins C dx fs)/\Cls K C/\NoAttr K C f/\fs.length<1000 /\
 D.nx Z (aA H2 a (.ins C dx (cY f y fs)))
section
variable {X:Cx}{o e value:Expr}{f:Str}{pos pos' tpos:Pos}{ta tv:TE}
theorem qQC (he:PE X e ta) (hb:attributeBase e f X.env (eval e X.env)=eval e X.env):PE X (.Attribute e f pos) (qU4 X.K ta f):=by
 intro pins s Z H Q I h
 refine qPb hb (aF (he pins s Z H _ I h) λu s1 ⟨x,H1,I1,rx,a,C,dx,fs,v,ex,ea,c,n,l,q⟩=>?_)
 subst ex
 obtain rfl:u=Value.ref a:=rx
 exact qG3 I1 ea c n l λu' s2 I2 ru=>⟨v,H1,I2,ru,q⟩
theorem qQp (ha:PE X o ta) (hv:PE X value tv) (hs:swapsWith value (some (.Attribute o f pos')) pos.line X.env=pure false):PS X (.Assign [.Attribute o f pos'] value pos) (qVa X.K ta tv f):=by
 intro pins s Z H D I h
 refine plainObj_wpAny_Assign_Attribute (aF (hv pins s Z H _ I h) λu s1 ⟨y,H1,I1,ry,q⟩=>aF (ha pins s1 Z H1 _ I1 q) λov s2 ⟨x,H2,I2,rx,a,C,dx,fs,ex,ea,c,n,l,q2⟩=>?_) hs
 subst ex
 obtain rfl:ov=Value.ref a:=rx
 exact qGR I2 ea c n l ry λs3 I3=>⟨Z,_,I3,q2⟩
end
section
variable {X:Cx}{pins:List (Addr×Obj)}{Z:St}{H:Hp}{s:Shared}{A:Around}{E:Value->Shared->Prop}{Q:Value->Shared->Prop}{c:Value}{b:Bool}
inductive TyOf (K:Qb) (H:Hp):V->Value->Prop where
 | non:TyOf K H .non (.type "NoneType")
 | bl (x:Bool):TyOf K H (.bl x) (.type "bool")
 | int (i:Int):TyOf K H (.int i) (.type "int")
 | str (x:Str):TyOf K H (.str x) (.type "str")
 | flt (x:UInt64):TyOf K H (.flt x) (.type "float")
 | lst {a:Addr} {xs:List V} (e:H a=some (.lst xs)):TyOf K H (.ref a) (.type "list")
 | frz {a:Addr} {o:Obj} {xs:List V} (e:H a=some (.frz o (.lst xs))):TyOf K H (.ref a) (.type "list")
 | tup {a:Addr} {xs:List V} (e:H a=some (.tup xs)):TyOf K H (.ref a) (.type "tuple")
 | dK {a:Addr} {kvs:List (dQ×V)} (e:H a=some (.dK kvs)):TyOf K H (.ref a) (.type "dict")
 | dT {a:Addr} {kvs:List (List dQ×V)} (e:H a=some (.dT kvs)):TyOf K H (.ref a) (.type "dict")
 | ins {a C dx:Addr} {fs:List (Str×V)} (e:H a=some (.ins C dx fs)) (cl:Cls K C) (ha:PySem.W.findIn K (.ref C) "__class__"=some (some (.builtin "object.__class__")))
   (hn:PySem.W.specialIn K (.builtin "object.__class__") "__get__"=some (some (.builtin "getset_descriptor.__get__"))) (htk:PySem.W.takesIn K (.builtin "object.__class__")=some true)
   (hm:PySem.W.mroIn K C (.type "object")=some true):TyOf K H (.ref a) (.ref C)
end
end L2
namespace L2
open PySem PySem.Spec PyProof.Rows
structure Room (k:Nat) (A:Around):Prop where
 hd:A.handled=none
 dp:A.depth+3 * k+5<recursionLimit
 un:A.units+16 * k+200<cLine
theorem Room.mono {j k:Nat}{A:Around}(r:Room k A) (h:j<=k):Room j A:=⟨r.hd,by have:=r.dp;omega,by have:=r.un;omega⟩
theorem Room.deeper {k:Nat}{A:Around}(r:Room (k+1) A) (env:Env):Room k (A.deeper env):=
 ⟨r.hd,by have:=r.dp;show A.depth+1+3 * k+5<_;omega,by have:=r.un;show A.units+3+16 * k+200<_;omega⟩
theorem qGX {A:Around}{C:Addr}{us:List Value}{kw:List (Str×Value)}:(A.under (.builtin "type.__call__" ⟨.ref C::us,kw⟩)).depth=A.depth+1:=by
 first|rfl|simp [Around.under,Code.weight,Code.isCreation,Code.isGuard,Code.isCaller,Code.frames,Code.isFrame,guardIds]
theorem qGW {A:Around}{C:Addr}{us:List Value}{kw:List (Str×Value)}:(A.under (.builtin "type.__call__" ⟨.ref C::us,kw⟩)).units=A.units+1:=by
 first|rfl|simp [Around.under,Code.cUnits,Code.frames,Code.isFrame]
theorem Room.make {k:Nat}{A:Around}(r:Room (k+1) A) (C:Addr) (us:List Value) (kw:List (Str×Value)):Room k (A.under (.builtin "type.__call__" ⟨.ref C::us,kw⟩)):=
 ⟨r.hd,by have:=r.dp;rw [qGX];omega,by have:=r.un;rw [qGW];omega⟩
theorem Room.depth {k:Nat}{A:Around}(r:Room k A):A.depth<recursionLimit:=by have:=r.dp;omega
theorem Room.units {k:Nat}{A:Around}(r:Room k A):A.units+64<cLine:=by have:=r.un;omega
noncomputable def t5:TA:=λ_ H Q=>Q [] H
noncomputable def qSX (ta:TE) (tr:TA):TA:=fun Z H Q=>ta Z H λx H1=>tr Z H1 λxs H2=>Q (x::xs) H2
section
variable {X:Cx}{e:Expr}{es:List Expr}{te:TE}{t:TA}{pos:Pos}
theorem gC:PA X [] t5:=λ_ _ _ _ H Q I h=>Calls.spliced_nil ⟨[],H,I,.nil,h⟩
theorem fy (ha:PE X e te) (hr:PA X es t) (hs:starEach (e::es) X.env=(false,eval e X.env)::starEach es X.env:=by rfl):PA X (e::es) (qSX te t):=by
 intro pos pins s Z H Q I h
 rw [hs]
 show wpAny _ _ (spliced ((false,eval e X.env)::backTo pos (starEach es X.env))) _ _ s
 refine Calls.spliced_cons (aF (ha pins s Z H _ I h) λu s1 ⟨x,H1,I1,r1,q1⟩=>?_)
 exact aF (hr pos pins s1 Z H1 _ I1 q1) λus s2 ⟨xs,H2,I2,r2,q2⟩=>⟨x::xs,H2,I2,.cons r1 r2,q2⟩
def qUW (t:TA):TE:=fun Z H Q=>t Z H λxs H1=>xs.length<=sizeLine/\∀p,H1 p=none->Q (.ref p) (aA H1 p (.tup xs))
def qU1 (t:TA):TE:=fun Z H Q=>t Z H λxs H1=>xs.length<=sizeLine/\∀p,H1 p=none->Q (.ref p) (aA H1 p (.lst xs))
theorem qQv {x1}(h:PA X es t):PE X (.Tuple es x1 pos) (qUW t):=by
 intro pins s Z H Q I hq
 refine wpAny_Tuple_spliced (aF (h pos pins s Z H _ I hq) λus s1 ⟨xs,H1,I1,r,z,q⟩=>⟨by rw [<-r.length];exact z,?_⟩)
 have hf:H1 s1.heap.objs.size=none:=I1.hok.fresh (aK _)
 refine⟨.ref s1.heap.objs.size,aA H1 s1.heap.objs.size (.tup xs),I1.laid (t':=s1.toks) (λb u e=>Qg _ e) (aK _) ?_,rfl,q _ hf⟩
 exact⟨z,us,r,⟨_,Qh _ rfl,rfl,_,rfl⟩⟩
theorem qQA (h:PA X es t):PE X (.List es pos) (qU1 t):=by
 intro pins s Z H Q I hq
 refine wpAny_List_spliced (aF (h pos pins s Z H _ I hq) λus s1 ⟨xs,H1,I1,r,z,q⟩=>⟨by rw [<-r.length];exact z,?_⟩)
 have hf:H1 s1.heap.objs.size=none:=I1.hok.fresh (aK _)
 refine⟨.ref s1.heap.objs.size,aA H1 s1.heap.objs.size (.lst xs),I1.laid (t':=s1.toks) (λb u e=>Qg _ e) (aK _) ?_,rfl,q _ hf⟩
 exact⟨z,us,0,r,Qh _ rfl⟩
end
abbrev Sp:=List V->Hp->VK->XK->Prop
abbrev il:=List Env->Hp->Shared->XK->Value->Shared->Prop
structure Env0 (P:Program) (w:World) (K:Qb) (mg:Str->Option Value) (base:Heap) (A:Around) (outer:List Env) (s:Shared) (H:Hp):Prop where
 frames:A.frames=some outer
 mod:Mod K mg base
 bs:∀b o,base.get? b=some o->s.heap.get? b=some o/\H b=none
 bsz:base.objs.size<=s.heap.objs.size
 funs:s.heap.FunFrames base outer
 frf:∀b∈gJ outer,H b=none
 hok:HOk P w H s.heap
 bare:AllBare s.gens
def CE (outer:List Env) (P:Program) (w:World) (H:Hp) (s:Shared) (Q:VK) (u:Value) (s':Shared):Prop:=
 ∃v H',s'.os=s.os/\AllBare s'.gens/\Un (gJ outer) [] H H' s.heap s'.heap/\HOk P w H' s'.heap/\RelV v u/\Q v H'
def CR (CX:il) (outer:List Env) (P:Program) (w:World) (H:Hp) (s:Shared) (Q:VK) (E:XK) (r:Result) (s':Shared):Prop:=
 match r with
 | .ok (.ret u)=>CE outer P w H s Q u s'
 | .ok _=>False
 | .error e=>CX outer H s E e s'
structure FnOk (P:Program) (w:World) (K:Qb) (mg:Str->Option Value) (base:Heap) (CX:il) (k:Nat) (f:Addr) (fd:FuncData) (ps:List Str) (sp:Sp):Prop where
 len:∀vs H Q E,sp vs H Q E->vs.length=ps.length
 run:∀(A:Around) (outer:List Env) (s:Shared) (H:Hp) (args:Args) (us:List Value) (vs:List V) (Q:VK) (E:XK),Room k A->Env0 P w K mg base A outer s H->BindsTo s fd args (ps.zip us)->Vals vs us->sp vs H Q E ->
  codeAny (model P w) A (.call (.ref f) args) (CR CX outer P w H s Q E) s
theorem Env0.make {P:Program}{w:World}{K:Qb}{mg:Str->Option Value}{base:Heap}{A:Around}{outer:List Env}{s:Shared}{H:Hp}(e:Env0 P w K mg base A outer s H) (C:Addr) (us:List Value) (kw:List (Str×Value)) :
  Env0 P w K mg base (A.under (.builtin "type.__call__" ⟨.ref C::us,kw⟩)) outer s H:=⟨by first|exact e.frames|(simpa [Around.under,Code.envs,Code.isFrame,pushEnvs] using e.frames),e.mod,e.bs,e.bsz,e.funs,e.frf,e.hok,e.bare⟩
section
variable {X:Cx}{pins:List (Addr×Obj)}{Z:St}{H:Hp}{s s':Shared}
theorem Inv.env0 (I:Inv X pins Z H s):Env0 X.prog X.w X.K X.mg X.base X.A X.stack s H:=
 ⟨I.ok.frames,I.ok.mod,I.bs,dR I.ok.bsz I.sz,I.stack,I.stkFree,I.hok,I.bare⟩
theorem Inv.after {Q:VK}{u:Value}(I:Inv X pins Z H s) (h:CE X.stack X.prog X.w H s Q u s'):EP X pins Z Q u s':=by
 obtain⟨v,H',os,bare,un,hok,r,q⟩:=h
 obtain⟨hh,g,d,t,os'⟩:=s'
 obtain rfl:os'=s.os:=os
 exact⟨v,H',I.call (h':=hh) (g':=g) (d':=d) (t':=t) (ch:=[]) un hok bare (λb z=>Qn z (by simp)),r,q⟩
end
def qSY (sp:Sp) (dvs:List V) (E:XK) (t:TA):TE:=fun Z H Q=>t Z H λvs H1=>sp (vs++dvs) H1 Q E
def zR (C:Addr) (m:Str) (sp:Sp) (dvs:List V) (E:XK) (ta:TE) (t:TA):TE:=fun Z H Q=>ta Z H λx H1=>∃a dx fs,x=.ref a/\H1 a=some (.ins C dx fs)/\fs.lookup m=none /\
 t Z H1 λvs H2=>sp (x::(vs++dvs)) H2 Q E
def zQ (C:Addr) (sp:Sp) (dvs:List V) (E:XK) (t:TA):TE:=fun Z H Q=>t Z H λvs H1=>∀x dx,H1 x=none->H1 dx=none->dx≠x ->
 sp (.ref x::(vs++dvs)) (aA (aA H1 dx (.own x)) x (.ins C dx [])) (λv H2=>v=.non/\Q (.ref x) H2) E
def Binds (K:Qb) (fd:FuncData) (ps:List Str) (ds:List Value):Prop:=
 ∀(s:Shared) (us:List Value),K.In s.heap->(us++ds).length=ps.length->BindsTo s fd ⟨us,[]⟩ (ps.zip (us++ds))
theorem Binds.all {K:Qb}{fd:FuncData}{ps:List Str}(h:∀us:List Value,us.length=ps.length->bindArgs fd ⟨us,[]⟩=pure (ps.zip us)):Binds K fd ps []:=λs us _ hl=>by
 rw [i7] at hl ⊢
 exact .of_eq (h us hl)
def jr (CX:il) (X:Cx) (E:XK):Prop:=∀(pins:List (Addr×Obj)) (Z:St) (H:Hp) (s:Shared) (e:Value) (s':Shared),Inv X pins Z H s->CX X.stack H s E e s'->X.xe e s'
section
variable {X:Cx}{CX:il}{k:Nat}{f C:Addr}{fd:FuncData}{ps:List Str}{sp:Sp}{dvs:List V}{ds:List Value}{E:XK}{x m:Str}{p pos apos:Pos}{e o:Expr}{es:List Expr}{ta:TE}{t:TA}
theorem uH {pins:List (Addr×Obj)}{Z:St}{H:Hp}{s:Shared}{Q:VK}{us:List Value}{vs:List V}(F:FnOk X.prog X.w X.K X.mg X.base CX k f fd ps sp) (hr:Room k X.A) (hb:Binds X.K fd ps ds) (hd:Vals dvs ds) (hx:jr CX X E)
  (I:Inv X pins Z H s) (r:Vals vs us) (h:sp (vs++dvs) H Q E):wpAny (model X.prog X.w) X.A (call (.ref f) us) (EP X pins Z Q) X.xe s:=by
 have r2:Vals (vs++dvs) (us++ds):=r.append hd
 have hl:(us++ds).length=ps.length:=by rw [<-r2.length];exact F.len _ _ _ _ h
 refine wpAny_call (codeAny_mono (F.run X.A X.stack s H ⟨us,[]⟩ (us++ds) (vs++dvs) Q E hr I.env0 (hb s us I.kIn hl) r2 h) λr s' hq=>?_)
 cases r with
 | error e=>exact hx pins Z H s e s' I hq
 | ok fl =>
  cases fl with
  | ret u=>exact I.after hq
  | next=>exact False.elim hq
  | brk=>exact False.elim hq
  | cont=>exact False.elim hq
theorem qN9 (F:FnOk X.prog X.w X.K X.mg X.base CX k f fd ps sp) (hr:Room k X.A) (hg:Gl X x) (hm:X.mg x=some (.ref f)) (hk:PySem.W.keepIn X.K (.ref f)=true) (hb:Binds X.K fd ps ds) (hd:Vals dvs ds) (hx:jr CX X E)
  (ha:PA X (e::es) t) (hdb:(x == ("__debug__":Str))=false:=by decide) (he:starEach (e::es) X.env=(false,eval e X.env)::starEach es X.env:=by rfl) (hpl:(backTo pos (starEach es X.env)).any (·.1)=false:=by rfl) :
  PE X (.Call (.Name x p) (e::es) [] pos) (qSY sp dvs E t):=by
 intro pins s Z H Q I h
 refine wpAny_Call_Name_kw (nR I hg hm ?_ hdb)
 refine tw (h₀:=X.base) I.ok.mod.kin hk (aF (ha pos pins s Z H _ I h) λus s1 ⟨vs,H1,I1,r,q⟩=>⟨I1.kIn,?_⟩) he hpl
 exact uH F hr hb hd hx I1 r q
theorem qN6 {pl:Sem Bool}(he:PE X o ta) (c:Cls X.K C) (hm:Meth X.K C m f) (F:FnOk X.prog X.w X.K X.mg X.base CX k f fd ps sp) (hr:Room k X.A) (hb:Binds X.K fd ps ds) (hd:Vals dvs ds) (hx:jr CX X E) (ha:PA X (e::es) t)
  (hst:starEach (e::es) X.env=(false,eval e X.env)::starEach es X.env:=by rfl) (hpl:(backTo pos (starEach es X.env)).any (·.1)=false:=by rfl)
  (ht:eval (.Call (.Attribute o m apos) (e::es) [] pos) X.env=(do
   let ov <-eval o X.env
   standAt apos.atName
   let (f,first) <-holding [ov] (getMethod ov m pl)
   callWith pos f first (backTo pos (starEach (e::es) X.env)) (backToKw pos (keywordEach [] X.env))):=by rfl) :
  PE X (.Call (.Attribute o m apos) (e::es) [] pos) (zR C m sp dvs E ta t):=by
 intro pins s Z H Q I h
 refine PySem.W.methodCall_KW (pl:=pl) (aF (he pins s Z H _ I h) λu s1 ⟨x,H1,I1,rx,a,dx,fs,ex,ea,l,q⟩=>?_) ht
 subst ex
 obtain rfl:u=Value.ref a:=rx
 refine Ds I1 ea c hm l ?_
 refine tw (first:=[.ref a]) (h₀:=X.base) I.ok.mod.kin hm.kp (aF (ha pos pins s1 Z H1 _ I1 q) λus s2 ⟨vs,H2,I2,r,q2⟩=>⟨I2.kIn,?_⟩) hst hpl
 exact uH (us:=.ref a::us) (vs:=.ref a::vs) F hr hb hd hx I2 (.cons rfl r) q2
theorem qKN {pl:Sem Bool}(he:PE X o ta) (c:Cls X.K C) (hm:Meth X.K C m f) (F:FnOk X.prog X.w X.K X.mg X.base CX k f fd ps sp) (hr:Room k X.A) (hb:Binds X.K fd ps ds) (hd:Vals dvs ds) (hx:jr CX X E)
  (ht:eval (.Call (.Attribute o m apos) [] [] pos) X.env=(do
   let ov <-eval o X.env
   standAt apos.atName
   let (f,first) <-holding [ov] (getMethod ov m pl)
   callWith pos f first (backTo pos (starEach [] X.env)) (backToKw pos (keywordEach [] X.env))):=by rfl) :
  PE X (.Call (.Attribute o m apos) [] [] pos) (zR C m sp dvs E ta t5):=by
 intro pins s Z H Q I h
 refine PySem.W.methodCall_KW (pl:=pl) (aF (he pins s Z H _ I h) λu s1 ⟨x,H1,I1,rx,a,dx,fs,ex,ea,l,q⟩=>?_) ht
 subst ex
 obtain rfl:u=Value.ref a:=rx
 refine Ds I1 ea c hm l ?_
 exact tD (first:=[.ref a]) I1.kIn hm.kp (uH (us:=[.ref a]) (vs:=[.ref a]) F hr hb hd hx I1 (.cons rfl .nil) q)
structure Mk (K:Qb) (C f:Addr):Prop where
 makes:PySem.W.makesIn K C=true
 init:PySem.W.findIn K (.ref C) "__init__"=some (some (.ref f))
 fn:PySem.W.isFn K (.ref f)=true
 kp:PySem.W.keepIn K (.ref C)=true
theorem CQ {pins:List (Addr×Obj)}{Z:St}{H:Hp}{s:Shared}{Q:VK}{us:List Value}{vs:List V}(M:Mk X.K C f) (F:FnOk X.prog X.w X.K X.mg X.base CX k f fd ps sp) (hr:Room (k+1) X.A) (hb:Binds X.K fd ps ds) (hd:Vals dvs ds)
  (hx:jr CX X E) (I:Inv X pins Z H s) (r:Vals vs us)
  (h:∀x dx,H x=none->H dx=none->dx≠x->sp (.ref x::(vs++dvs)) (aA (aA H dx (.own x)) x (.ins C dx [])) (λv H2=>v=.non/\Q (.ref x) H2) E) :
  wpAny (model X.prog X.w) X.A (call (.ref C) us) (EP X pins Z Q) X.xe s:=by
 have hq:=h (s.heap.objs.size+1) s.heap.objs.size (I.hok.fresh (Nat.le_succ _)) (I.hok.fresh (aK _)) (cD (sX _))
 have I2:=Inv.made (C:=C) I
 have r2:Vals (V.ref (s.heap.objs.size+1)::(vs++dvs)) (Value.ref (s.heap.objs.size+1)::(us++ds)):=.cons rfl (r.append hd)
 have hl:(Value.ref (s.heap.objs.size+1)::us++ds).length=ps.length:=by
  have e:=r2.length
  rw [F.len _ _ _ _ hq] at e
  exact e.symm
 refine wpAny_call (qK5 (f:=f) I.kIn M.makes M.init (beq_iff_eq.mp M.fn) (codeAny_mono (F.run _ X.stack _ _ ⟨Value.ref (s.heap.objs.size+1)::us,[]⟩ (Value.ref (s.heap.objs.size+1)::(us++ds)) _ _ E (hr.make C us [])
  (I2.env0.make C us []) (hb _ (Value.ref (s.heap.objs.size+1)::us) I2.kIn hl) r2 hq) λr s' hq'=>?_))
 cases r with
 | error e=>exact hx pins Z _ _ e s' I2 hq'
 | ok fl =>
  cases fl with
  | ret u =>
   obtain⟨v,H',I3,rv,ev,q3⟩:=I2.after hq'
   subst ev
   exact⟨rv,⟨V.ref (s.heap.objs.size+1),H',I3,rfl,q3⟩⟩
  | next=>exact False.elim hq'
  | brk=>exact False.elim hq'
  | cont=>exact False.elim hq'
theorem qN7 (M:Mk X.K C f) (F:FnOk X.prog X.w X.K X.mg X.base CX k f fd ps sp) (hr:Room (k+1) X.A) (hg:Gl X x) (hm:X.mg x=some (.ref C)) (hb:Binds X.K fd ps ds) (hd:Vals dvs ds) (hx:jr CX X E)
  (ha:PA X (e::es) t) (hdb:(x == ("__debug__":Str))=false:=by decide) (he:starEach (e::es) X.env=(false,eval e X.env)::starEach es X.env:=by rfl) (hpl:(backTo pos (starEach es X.env)).any (·.1)=false:=by rfl) :
  PE X (.Call (.Name x p) (e::es) [] pos) (zQ C sp dvs E t):=by
 intro pins s Z H Q I h
 refine wpAny_Call_Name_kw (nR I hg hm ?_ hdb)
 refine tw (h₀:=X.base) I.ok.mod.kin M.kp (aF (ha pos pins s Z H _ I h) λus s1 ⟨vs,H1,I1,r,q⟩=>⟨I1.kIn,?_⟩) he hpl
 exact CQ M F hr hb hd hx I1 r q
theorem qKP (M:Mk X.K C f) (F:FnOk X.prog X.w X.K X.mg X.base CX k f fd ps sp) (hr:Room (k+1) X.A) (hg:Gl X x) (hm:X.mg x=some (.ref C)) (hb:Binds X.K fd ps ds) (hd:Vals dvs ds) (hx:jr CX X E)
  (hdb:(x == ("__debug__":Str))=false:=by decide):PE X (.Call (.Name x p) [] [] pos) (zQ C sp dvs E t5):=by
 intro pins s Z H Q I h
 refine wpAny_Call_Name_kw (nR I hg hm ?_ hdb)
 exact tD I.kIn M.kp (CQ (us:=[]) M F hr hb hd hx I .nil h)
end
section
variable {X:Cx}{CX:il}{k:Nat}{f C:Addr}{fd:FuncData}{ps ks:List Str}{sp:Sp}{E:XK}{x m:Str}{p pos apos kpos:Pos}{e o:Expr}{es:List Expr}{kws:List Keyword}{te ta:TE}{t tk:TA}{nm:Option Str}
structure KBinds (K:Qb) (fd:FuncData) (ps ks:List Str) (g:List Value->List Value->List Value) (gV:List V->List V->List V):Prop where
 to:∀(s:Shared) (us ws:List Value),K.In s.heap->(g us ws).length=ps.length->BindsTo s fd ⟨us,ks.zip ws⟩ (ps.zip (g us ws))
 rel:∀{vs:List V} {us:List Value} {zs:List V} {ws:List Value},Vals vs us->Vals zs ws->Vals (gV vs zs) (g us ws)
variable {g:List Value->List Value->List Value}{gV:List V->List V->List V}
end
structure FnScope (N P:List Str) (sc:Scope):Prop where
 kind:sc.kind=.function
 co:sc.isCoroutine=false
 gen:sc.isGenerator=false
 nd:N.Nodup
 pre:N.take P.length=P
 par:∀x∈P,sc.names.lookup x=some .local∨sc.names.lookup x=some .cell
 nofree:∀y∈sc.names,y.2≠.free
theorem CD {kindOf:Str->Option NameKind}{x:Str}:∀{binds:List (Str×Value)}{m:Str->Option Value},(∀v,(x,v)∉binds)->bindL kindOf binds m x=m x
 | [],_,_=>rfl
 | (n,v)::r,m,h=>by
  unfold bindL
  rw [CD λw hw=>h w (dM _ hw)]
  split
  ·have:x≠n:=by rintro rfl;exact h v dz
   simp [this]
  ·rfl
theorem CB {kindOf:Str->Option NameKind}{x:Str}:∀{binds:List (Str×Value)}{m:Str->Option Value},(∀v,(x,v)∉binds)->bindC kindOf binds m x=m x
 | [],_,_=>rfl
 | (n,v)::r,m,h=>by
  unfold bindC
  rw [CB λw hw=>h w (dM _ hw)]
  split
  ·rfl
  ·have:x≠n:=by rintro rfl;exact h v dz
   simp [this]
theorem CC {kindOf:Str->Option NameKind}{x:Str}{v:Value}:∀{P:List Str}{vs:List Value}{i:Nat}{m:Str->Option Value},P.Nodup->P[i]?=some x->vs[i]?=some v->kindOf x=some .local ->
  bindL kindOf (P.zip vs) m x=some v
 | [],_,_,_,_,h,_,_=>by simp at h
 | _::_,[],_,_,_,_,h,_=>by simp at h
 | p::P,w::vs,0,m,nd,h1,h2,hk=>by
  simp at h1 h2;subst h1;subst h2
  show bindL kindOf ((p,w)::P.zip vs) m p=_
  unfold bindL
  rw [CD λv hv=>(yba.mp nd).1 (sV hv).1,Ql hk]
  simp
 | p::P,w::vs,i+1,m,nd,h1,h2,hk=>by
  show bindL kindOf ((p,w)::P.zip vs) m x=_
  unfold bindL
  exact CC (i:=i) (yba.mp nd).2 (by simpa using h1) (by simpa using h2) hk
theorem CA {kindOf:Str->Option NameKind}{x:Str}{v:Value}:∀{P:List Str}{vs:List Value}{i:Nat}{m:Str->Option Value},P.Nodup->P[i]?=some x->vs[i]?=some v->kindOf x≠some .local ->
  bindC kindOf (P.zip vs) m x=some v
 | [],_,_,_,_,h,_,_=>by simp at h
 | _::_,[],_,_,_,_,h,_=>by simp at h
 | p::P,w::vs,0,m,nd,h1,h2,hk=>by
  simp at h1 h2;subst h1;subst h2
  show bindC kindOf ((p,w)::P.zip vs) m p=_
  unfold bindC
  rw [CB λv hv=>(yba.mp nd).1 (sV hv).1,Qm hk]
  simp
 | p::P,w::vs,i+1,m,nd,h1,h2,hk=>by
  show bindC kindOf ((p,w)::P.zip vs) m x=_
  unfold bindC
  exact CA (i:=i) (yba.mp nd).2 (by simpa using h1) (by simpa using h2) hk
noncomputable def start (N:List Str) (vs:List V):St:=vs.map some++List.replicate (N.length - vs.length) none
def jb (CX:il) (P:Program) (w:World) (K:Qb) (mg:Str->Option Value) (base:Heap) (N:List Str) (qual:Str) (scope:Scope) (f:Addr) (cd:Value) (A:Around) (outer:List Env) (s:Shared) (H:Hp) (E:XK):Cx where
 prog:=P
 w:=w
 K:=K
 mg:=mg
 base:=base
 A:=A.deeper (envOfC qual scope s.heap.objs.size f cd)
 N:=N
 s₀:=s
 H₀:=H
 env:=envOfC qual scope s.heap.objs.size f cd
 outer:=outer
 stack:=envOfC qual scope s.heap.objs.size f cd::outer
 ex:=[]
 calm:=true
 fn:=λ_=>true
 pn:=[]
 xe:=λe s'=>wpAny (model P w) (A.deeper (envOfC qual scope s.heap.objs.size f cd)) (leaving (envOfC qual scope s.heap.objs.size f cd) e) (λ_ s''=>CX outer H s E e s'') (λe' s''=>CX outer H s E e' s'') s'
theorem Cb {sc:Scope}{n:Nat}{x:Str}(h:sc.names.lookup x=some .cell):∃c,(cellsFrom n sc.names []).lookup x=some c:=by
 have q:=PySem.W.cellsFrom_some sc.names n [] (.inl h)
 exact Option.isSome_iff_exists.mp q
theorem qIH {CX:il}{P:Program}{w:World}{K:Qb}{mg:Str->Option Value}{base:Heap}{N ps:List Str}{qual:Str}{scope:Scope}{f:Addr}{cd:Value}{A:Around}{outer:List Env}{s s1:Shared}{H:Hp}{E:XK}{us:List Value}{vs:List V}
  (S:FnScope N ps scope) (hd:A.handled=none) (e0:Env0 P w K mg base A outer s H) (hl:vs.length=ps.length) (r:Vals vs us)
  (x:InCallC s s.heap.objs.size (bindL (envOfC qual scope s.heap.objs.size f cd).kindOf (ps.zip us) λ_=>none) (cellsFrom (s.heap.objs.size+1) scope.names []) (bindC (envOfC qual scope s.heap.objs.size f cd).kindOf (ps.zip us) λ_=>none) s1) :
  Inv (jb CX P w K mg base N qual scope f cd A outer s H E) [] (start N vs) H s1:=by
 have hpl:ps.length<=N.length:=by have:=congrArg List.length S.pre;rw [iw] at this;omega
 obtain⟨h1,tk,rfl,hk⟩:=x.done
 have noA:∀b:Addr,b∉(jb CX P w K mg base N qual scope f cd A outer s H E).ex:=λb z=>Qn (show b∈([]:List Addr) from z) (by simp)
 refine⟨⟨e0.mod,S.kind,rfl,rfl,aK _,λy z c h1 h2=>?_,λy hy=>?_,λy c _ h=>?_,λ_=>hd,Around.frames_deeper e0.frames,.inr ⟨rfl,rfl⟩,λb z=>Qn z (noA b),e0.bs,e0.bsz,λb _ _=>noA b,λb z=>Qn z (noA b),e0.funs,e0.frf⟩,
  rfl,e0.bare,Un.kept hk,⟨_,x.toInCall.ns,λi y v h1 h2 h3=>?_⟩,λy c h=>⟨_,x.cell y c h⟩,e0.hok.fresh (aK _),λy c h=>?_,λp hp=>Qn (show p∈([]:List (Addr×Obj)) from hp) (by simp),e0.hok.kept hk,?_⟩
 ·exact name_of_addr x.apart (gn h1) (gn h2)
 ·have hy:scope.names.lookup y=some .cell∨scope.names.lookup y=some .free:=hy
  rcases hy with hy|hy
  ·exact Cb hy
  ·exact Qn rfl (S.nofree _ (gn hy))
 ·exact Nat.le_of_lt (x.above y c (gn h))
 ·have hi:i<vs.length:=by
   unfold start at h2
   by_cases hi:i<vs.length
   ·exact hi
   ·rw [k7 (by simpa using hi)] at h2
    rw [k6] at h2
    split at h2<;>cases h2
  have ha:vs[i]?=some v:=by
   unfold start at h2
   rw [m8 (by simpa using hi),gk] at h2
   cases e:vs[i]? with
   | none=>rw [e] at h2;cases h2
   | some a=>rw [e] at h2;cases h2;rfl
  obtain⟨u,hu,rv⟩:=r.get ha
  have hp:ps[i]?=some y:=by
   rw [<-S.pre,List.getElem?_take_of_lt (by omega)];exact h1
  have ndP:ps.Nodup:=by rw [<-S.pre];exact S.nd.sublist (tq _ _)
  refine⟨u,rv,?_⟩
  rcases S.par y (pB hp) with k|k
  ·exact .inl ⟨k,CC ndP hp hu k⟩
  ·obtain⟨c,e⟩:=Cb (n:=s.heap.objs.size+1) k
   refine .inr ⟨.inl k,c,e,?_⟩
   have q:=x.cell y c e
   rw [CA ndP hp hu (by show scope.names.lookup y≠_;rw [k];decide)] at q
   exact q
 ·exact e0.hok.fresh (Nat.le_of_lt (x.above y c (gn h)))
 ·unfold start
  show _=N.length
  rw [i8,fV,sF]
  omega
theorem qTI {CX:il}{P:Program}{w:World}{K:Qb}{mg:Str->Option Value}{base:Heap}{k:Nat}{f:Addr}{name qual:Str}{params:Arguments}{body:List Stmt}{scope:Scope}{dV kV doc pm cdv ct oc:Value}{an od:Option Addr}
  {osl:Array (Option Value)} {N ps:List Str} {sp:Sp} (lk:K.lookup f=some ⟨oc,od,.func (PySem.W.fnOf name qual params body scope dV kV doc pm an cdv ct),osl⟩) (hcd:PySem.W.codeIn K cdv qual=true) (S:FnScope N ps scope)
  (len:∀vs H Q E,sp vs H Q E->vs.length=ps.length)
  (hbody:∀(A:Around) (outer:List Env) (s:Shared) (H:Hp) (vs:List V) (Q:VK) (E:XK),Room k (A.deeper (envOfC qual scope s.heap.objs.size f cdv))->sp vs H Q E ->
   ∃t,PSs (jb CX P w K mg base N qual scope f cdv A outer s H E) body t/\t { nx:=λ_ H'=>Q .non H',rt:=Q } (start N vs) H) :
  FnOk P w K mg base CX (k+1) f (PySem.W.fnOf name qual params body scope dV kV doc pm an cdv ct) ps sp:=by
 refine⟨len,λA outer s H args us vs Q E hr e0 hb r hsp=>?_⟩
 have hl:=len _ _ _ _ hsp
 have KX:K.In s.heap:=e0.mod.kin.keeps λb o e=>(e0.bs b o e).1
 have lim:s.heap.NoLimit:=e0.mod.nolimit.keeps λb o e=>(e0.bs b o e).1
 have hkind:∀y∈ps.zip us,scope.names.lookup y.1=some .local∨(scope.names.lookup y.1=some .cell/\((cellsFrom (s.heap.objs.size+1) scope.names []).lookup y.1).isSome=true):=λ⟨n,v⟩ hy=>by
  rcases S.par n (sV hy).1 with q|q
  ·exact .inl q
  ·exact .inr ⟨q,PySem.W.cellsFrom_some _ _ _ (.inl q)⟩
 refine codeAny_call_function hr.depth (KX _ _ lk) rfl S.co S.gen rfl (PySem.W.codeRec_of KX hcd) (hb _ _ _ _ ?_)
 refine wpAny_newFunctionEnv_cells S.kind hkind λenv he s1 x=>?_
 subst he
 refine⟨lim.keeps x.toInCall.keep,codeAny_func ?_⟩
 obtain⟨t,ht,hq⟩:=hbody A outer s H vs Q E (hr.deeper _) hsp
 have I:Inv (jb CX P w K mg base N qual scope f cdv A outer s H E) [] (start N vs) H s1:=qIH S hr.hd e0 hl r x
 refine Qe (ht [] s1 (start N vs) H _ I hq) (λfl s' hs=>?_) λe s' hs=>hs
 have fin:∀{Z':St} {H':Hp} {v:V} {u:Value},Inv (jb CX P w K mg base N qual scope f cdv A outer s H E) [] Z' H' s'->RelV v u->Q v H'->CE outer P w H s Q u s':=
  λ{Z' H' v u} J rv q=>⟨v,H',J.os,J.bare,J.base,J.hok,rv,q⟩
 cases fl with
 | ret u =>
  obtain⟨v,Z',H',J,rv,q⟩:=hs
  exact fin J rv q
 | next =>
  obtain⟨Z',H',J,q⟩:=hs
  exact fin (v:=V.non) (u:=Value.none) J rfl q
 | brk =>
  obtain⟨_,_,_,q⟩:=hs
  exact False.elim q
 | cont =>
  obtain⟨_,_,_,q⟩:=hs
  exact False.elim q
end L2
namespace L2
open PySem PySem.Spec PyProof.Rows
section
variable {X:Cx}{x:Str}{p pos:Pos}{e:Expr}{es:List Expr}{t:TA}{id T:String}{r:List V->Hp->VK->Prop}
noncomputable def yw (r:List V->Hp->VK->Prop) (t:TA):TE:=fun Z H Q=>t Z H λvs H1=>r vs H1 Q
theorem Ct (hc:CallR X (.builtin id) r) (hg:Gl X x) (hm:X.mg x=none) (hv:Qo x=some (.builtin id)) (ha:PA X (e::es) t) (hn:x≠"__name__":=by decide) (hdb:(x == ("__debug__":Str))=false:=by decide)
  (he:starEach (e::es) X.env=(false,eval e X.env)::starEach es X.env:=by rfl) (hpl:(backTo pos (starEach es X.env)).any (·.1)=false:=by rfl):PE X (.Call (.Name x p) (e::es) [] pos) (yw r t):=by
 intro pins s Z H Q I h
 refine wpAny_Call_Name_kw (f9 I hg hm hv ?_ hn hdb)
 exact PyProof.Rows.callWith_builtin1 (aF (ha pos pins s Z H _ I h) λus s1 ⟨vs,H1,I1,r1,q1⟩=>hc pins s1 Z H1 vs us Q I1 r1 q1) he hpl
theorem vo (hc:CallR X (.type T) r) (hg:Gl X x) (hm:X.mg x=none) (hv:Qo x=some (.type T)) (ha:PA X (e::es) t) (hn:x≠"__name__":=by decide) (hdb:(x == ("__debug__":Str))=false:=by decide)
  (he:starEach (e::es) X.env=(false,eval e X.env)::starEach es X.env:=by rfl) (hpl:(backTo pos (starEach es X.env)).any (·.1)=false:=by rfl):PE X (.Call (.Name x p) (e::es) [] pos) (yw r t):=by
 intro pins s Z H Q I h
 refine wpAny_Call_Name_kw (f9 I hg hm hv ?_ hn hdb)
 exact gP (aF (ha pos pins s Z H _ I h) λus s1 ⟨vs,H1,I1,r1,q1⟩=>hc pins s1 Z H1 vs us Q I1 r1 q1) he hpl
end
end L2
namespace HT
open PySem PyProof.Rows
section
variable {prog:Program}{w:World}{A:Around}{E:Value->Shared->Prop}{s:Shared}
theorem cat_tup {t b:Addr}{vs ws:List Value}{Q:Value->Shared->Prop}(ht:IsTup s.heap t vs.toArray) (hb:IsTup s.heap b ws.toArray) (hv:vs≠[])
  (h1:ws=[]->Q (.ref t) s) (h2:ws≠[]->Q (.ref s.heap.objs.size) { s with heap:=s.heap.push { cls:=.type "tuple",data:=.seq (vs++ws).toArray } })
  (hsz:vs.length+ws.length<=sizeLine):wpAny (model prog w) A (binaryOp .Add (.ref t) (.ref b)) Q E s:=by
 obtain⟨⟨cls,dd,data,sl⟩,ho,hc,n,hd⟩:=id ht
 obtain⟨⟨cls2,dd2,data2,gv⟩,ho2,hc2,n2,hd2⟩:=id hb
 simp only at hc hd hc2 hd2
 subst hc hd hc2 hd2
 have e:vs.toArray++ws.toArray=(vs++ws).toArray:=by simp
 by_cases hw:ws=[]
 ·exact concat_meets ⟨_,ho,rfl⟩ ⟨_,ho2,rfl⟩ noFill_tuple_add seq_tuple_add sH sI (sJ _ _)
   (tuple_addW1 t b vs.toArray ws.toArray n n2 dd dd2 sl gv (by simpa using hv) (by simp [hw])) ⟨ho,ho2,h1 hw⟩
 ·refine concat_meets ⟨_,ho,rfl⟩ ⟨_,ho2,rfl⟩ noFill_tuple_add seq_tuple_add sH sI (sJ _ _)
   (tuple_addW2 t b vs.toArray ws.toArray n n2 dd dd2 sl gv (by simpa using hv) (by simpa using hw) (by rw [aZ,aZ];exact hsz)) ⟨ho,ho2,?_⟩
  rw [e]
  exact h2 hw
noncomputable def sIx (n d:Nat):Option Int->Nat
 | none=>d
 | some v=>if v<0 then (v+(n:Int)).toNat else min v.toNat n
theorem qQc (n d:Nat) (hd:d<=n) (o:Option Int):sIx n d o<=n:=by
 cases o with
 | none=>exact hd
 | some v =>
  show (if v<0 then (v+(n:Int)).toNat else min v.toNat n)<=n
  by_cases hv:v<0
  ·rw [Ql hv];omega
  ·rw [Qm hv];exact Nat.min_le_right _ _
theorem clip_eq (v:Int) (n d:Nat):(if v<0 then max (v+(n:Int)) 0 else min v (n:Int))=((sIx n d (some v):Nat):Int):=by
 show (if v<0 then max (v+(n:Int)) 0 else min v (n:Int))=(((if v<0 then (v+(n:Int)).toNat else min v.toNat n):Nat):Int)
 by_cases hv:v<0
 ·simp only [Ql hv];omega
 ·simp only [Qm hv];omega
theorem qHe (lo hi:Option Int) (n:Nat):Builtin.Slice.sliceAdjust lo hi 1 (n:Int)=(((sIx n 0 lo:Nat):Int),((sIx n n hi:Nat):Int)):=by
 have h1:¬((1:Int)<0):=by omega
 unfold Builtin.Slice.sliceAdjust
 simp only [h1,if_false]
 refine Prod.ext ?_ ?_
 ·cases lo with
  | none=>rfl
  | some v=>exact clip_eq v n 0
 ·cases hi with
  | none=>rfl
  | some v=>exact clip_eq v n n
theorem qGT (i j:Nat):Builtin.Slice.slicePlaces (i:Int) (j:Int) 1=j - i:=by
 unfold Builtin.Slice.slicePlaces
 have h1:(1:Int) > 0:=by omega
 simp only [h1,if_true,Int.ediv_one]
 split<;>omega
theorem Du {v:Value}{o:Option Int}{Q:Option Int->Shared->Prop}(p:IsPart v o) (h:Q o s):wpAny (model prog w) A (Builtin.Slice.slicePartIndex v) Q E s:=by
 cases p with
 | none=>exact slicePart_none h
 | int i t=>exact slicePart_int h
theorem DG {sl:Addr}{vl vu:Value}{lo hi:Option Int}{n:Nat}{Q:Int×Int×Nat->Shared->Prop}(hs:s.heap.IsSliceOf sl vl vu .none) (pl:IsPart vl lo) (pu:IsPart vu hi)
  (h:Q (((sIx n 0 lo:Nat):Int),1,sIx n n hi - sIx n 0 lo) s):wpAny (model prog w) A (Builtin.Slice.sliceApplied (.ref sl) (pure (n:Int))) Q E s:=by
 obtain⟨os,hos,hcs,hds⟩:=id hs
 unfold Builtin.Slice.sliceApplied Builtin.Slice.sliceFields
 refine Qc (Qc (Qf hos hds (x:=vl) rfl (Qc (Qf hos hds (x:=vu) rfl (Qc (Qf hos hds (x:=.none) rfl (Qd ?_)))))))
 refine Qc (slicePart_none ?_)
 show wpAny _ _ (if ((1:Int) == 0)=true then _ else _) _ _ s
 rw [Qm (by decide)]
 refine Qc (Du pl (Qc (Du pu (Qc (Qd ?_)))))
 show wpAny _ _ (match Builtin.Slice.sliceAdjust lo hi 1 (n:Int) with|(lo,hi)=>pure (lo,(1:Int),Builtin.Slice.slicePlaces lo hi 1)) _ _ s
 rw [qHe lo hi n]
 show wpAny _ _ (pure (((sIx n 0 lo:Nat):Int),(1:Int),Builtin.Slice.slicePlaces ((sIx n 0 lo:Nat):Int) ((sIx n n hi:Nat):Int) 1)) _ _ s
 rw [qGT]
 exact Qd h
theorem qKL (xs:Array Value) (i k:Nat):((List.range k).filterMap λ(m:Nat)=>xs[((i:Int)+(m:Int) * 1).toNat]?).toArray=((xs.toList.drop i).take k).toArray:=by
 have e:(λ(m:Nat)=>xs[((i:Int)+(m:Int) * 1).toNat]?)=λm=>xs[i+m]?:=by
  funext m
  have:((i:Int)+(m:Int) * 1).toNat=i+m:=by omega
  rw [this]
 rw [e]
 have:=pick_run xs i k
 rw [List.filterMap_map] at this
 have e2:((λx=>xs[x]?) ∘ λx=>i+x)=λm=>xs[i+m]?:=rfl
 rw [e2] at this
 rw [this]
theorem getItem_tuple_cut {t sl:Addr}{items:Array Value}{vl vu:Value}{lo hi:Option Int}{Q:Value->Shared->Prop}(ht:IsTup s.heap t items) (hs:s.heap.IsSliceOf sl vl vu .none) (pl:IsPart vl lo) (pu:IsPart vu hi)
  (hw:¬(sIx items.size 0 lo=0/\sIx items.size items.size hi=items.size))
  (h:Q (.ref s.heap.objs.size) { s with heap:=s.heap.push { cls:=.type "tuple",data:=.seq ((items.toList.drop (sIx items.size 0 lo)).take (sIx items.size items.size hi - sIx items.size 0 lo)).toArray } })
  (hsz:items.size<=sizeLine):wpAny (model prog w) A (getItem (.ref t) (.ref sl)) Q E s:=by
 have htake:sizeOk (.seq ((items.toList.drop (sIx items.size 0 lo)).take (sIx items.size items.size hi - sIx items.size 0 lo)).toArray):=by
  show ((items.toList.drop (sIx items.size 0 lo)).take (sIx items.size items.size hi - sIx items.size 0 lo)).toArray.size<=sizeLine
  rw [aZ,iw,List.length_drop,pz]
  omega
 have hj:sIx items.size items.size hi<=items.size:=qQc _ _ (aK _) hi
 obtain⟨os,hos,hcs,hds⟩:=id hs
 have hTs:s.TypeIs (.ref sl) "slice":=⟨os,hos,hcs⟩
 unfold getItem
 try with_reducible refine wpAny_holding ?_
 first|refine Qc (Qd ?_)|skip
 refine Qc (wpAny_sequenceKey ht.typeIs (by decide) ?_)
 refine Qc (wpAny_callSpecial?_slot (name:=Qa "__getitem__") ht.typeIs yat
  (wpAny_call_entry yat ht.typeIs entry_tuple_getitem ?_ (args_tuple_getitem _ _)))
 show wpAny _ _ (Builtin.Tuple.tupleItemsOf (.ref t) >>= _) _ _ s
 refine Qc (tupleItemsOf_ ht ?_)
 refine Qc (wpAny_typeOf hTs ?_)
 rw [Ql (by decide)]
 refine Qc (DG hs pl pu ?_)
 have hno:¬((((sIx items.size 0 lo:Nat):Int) == 0&&(1:Int) == 1&&(sIx items.size items.size hi - sIx items.size 0 lo) == items.size)=true):=by
  intro q
  rw [aY,aY] at q
  have q1:((sIx items.size 0 lo:Nat):Int)=0:=eq_of_beq q.1.1
  have q2:sIx items.size items.size hi - sIx items.size 0 lo=items.size:=eq_of_beq q.2
  exact hw ⟨by omega,by omega⟩
 show wpAny _ _ (if (((sIx items.size 0 lo:Nat):Int) == 0&&(1:Int) == 1&&(sIx items.size items.size hi - sIx items.size 0 lo) == items.size)=true then _ else _) _ _ s
 rw [Qm hno,qKL]
 first
  | exact Qc (m:=Builtin.Tuple.tupleExact _) (wpAny_newObj_type (Qd ⟨_,rfl,Qd h⟩) htake)
  | exact Qc (m:=Builtin.Tuple.tupleExact _) (wpAny_newObj_type (Qc (Qd (Qd ⟨_,rfl,Qd h⟩))) htake)
  | exact Qc (Qc (m:=Builtin.Tuple.tupleExact _) (wpAny_newObj_type (Qd (Qd ⟨_,rfl,Qd h⟩)) htake))
  | exact Qc (Qc (m:=Builtin.Tuple.tupleExact _) (wpAny_newObj_type (Qd ⟨_,rfl,Qd h⟩) htake))
end
end HT
namespace L2
open PySem PySem.Spec PyProof.Rows
abbrev TO:=St->Hp->(Option Int->Hp->Prop)->Prop
def PO (X:Cx) (e:Option Expr) (t:TO):Prop:=
 ∀(pins:List (Addr×Obj)) (s:Shared) (Z:St) (H:Hp) (Q:Option Int->Hp->Prop),Inv X pins Z H s->t Z H Q ->
   wpAny (model X.prog X.w) X.A (evalPart e X.env) (λu s'=>∃o H',Inv X pins Z H' s'/\IsPart u o/\Q o H') X.xe s
noncomputable def qNh:TO:=λ_ H Q=>Q none H
noncomputable def qSS (t:TE):TO:=fun Z H Q=>t Z H λx H1=>∃i,x=.int i/\Q (some i) H1
theorem qG0 {ns:List Int}:∀{us:List Value},Vals (ns.map V.int) us->IntsAre us ns:=by
 induction ns with
 | nil=>intro us r;rw [List.map_nil] at r;cases r;exact .nil
 | cons n ns ih =>
  intro us r
  rw [gQ] at r
  cases r with
  | cons r1 r2 =>
   obtain⟨t,e⟩:=r1
   subst e
   exact .cons n t (ih r2)
section
variable {X:Cx}{e:Expr}{te:TE}{lo hi:Option Expr}{tl th:TO}{pos p2:Pos}
theorem qN4:PO X none qNh:=by
 intro pins s Z H Q I h
 rw [evalPart_none]
 exact Qd ⟨none,H,I,.none,h⟩
theorem qN3 (h:PE X e te):PO X (some e) (qSS te):=by
 intro pins s Z H Q I hw
 rw [evalPart_some]
 refine aF (h pins s Z H _ I hw) λu s1 ⟨x,H1,I1,r1,q1⟩=>?_
 obtain⟨i,rfl,q⟩:=q1
 obtain⟨t,rfl⟩:=r1
 exact⟨some i,H1,I1,.int i t,q⟩
def SlR (X:Cx) (r:V->Option Int->Option Int->Hp->VK->Prop):Prop:=
 ∀(pins:List (Addr×Obj)) (s:Shared) (Z:St) (H:Hp) (x:V) (v vl vu:Value) (lo hi:Option Int) (sl:Addr) (Q:VK),Inv X pins Z H s->RelV x v->s.heap.IsSliceOf sl vl vu .none->IsPart vl lo->IsPart vu hi->r x lo hi H Q ->
   ∃T id,typeLookup (.type T) "__getitem__"=pure (some (.builtin id))/\s.TypeIs v T/\wpAny (model X.prog X.w) X.A (getItem v (.ref sl)) (EP X pins Z Q) X.xe s
theorem SlR.or {r r':V->Option Int->Option Int->Hp->VK->Prop}(h:SlR X r) (h':SlR X r'):SlR X (λx lo hi H Q=>r x lo hi H Q∨r' x lo hi H Q):=by
 intro pins s Z H x v vl vu lo hi sl Q I rx hs pl pu q
 rcases q with q|q
 ·exact h pins s Z H x v vl vu lo hi sl Q I rx hs pl pu q
 ·exact h' pins s Z H x v vl vu lo hi sl Q I rx hs pl pu q
noncomputable def tSl (r:V->Option Int->Option Int->Hp->VK->Prop) (te:TE) (tl th:TO):TE:=fun Z H Q=>te Z H λx H1=>tl Z H1 λl H2=>th Z H2 λu H3=>r x l u H3 Q
theorem qKM {r:V->Option Int->Option Int->Hp->VK->Prop}(hr:SlR X r) (he:PE X e te) (hl:PO X lo tl) (hu:PO X hi th):PE X (.Subscript e (.Slice lo hi none p2) pos) (tSl r te tl th):=by
 intro pins s Z H Q I h
 refine Subscript_ (aF (he pins s Z H _ I h) λv s1 ⟨x,H1,I1,r1,q1⟩=>?_)
 refine wpAny_Slice (aF (hl pins s1 Z H1 _ I1 q1) λvl s2 ⟨l,H2,I2,pl,q2⟩=>aF (hu pins s2 Z H2 _ I2 q2) λvu s3 ⟨u,H3,I3,pu,q3⟩=>?_)
 rw [evalPart_none]
 refine Qd ?_
 have I4:Inv X pins Z H3 { s3 with heap:=s3.heap.push { cls:=.type "slice",data:=.fields #[vl,vu,.none] } }:=I3.kept (t':=s3.toks) λb ob q=>Qg _ q
 obtain⟨T,id,hT,ht,hg⟩:=hr pins { s3 with heap:=s3.heap.push { cls:=.type "slice",data:=.fields #[vl,vu,.none] } } Z H3 x v vl vu l u s3.heap.objs.size Q I4 r1 (Heap.IsSliceOf.new ..) pl pu q3
 show wpAny (model X.prog X.w) X.A (subscriptTail e (.Slice lo hi none p2) v (.ref s3.heap.objs.size)) (EP X pins Z Q) X.xe { s3 with heap:=s3.heap.push { cls:=.type "slice",data:=.fields #[vl,vu,.none] } }
 exact tail_any (ops:=[.ref s3.heap.objs.size,v]) ht hT hg (by with_unfolding_all rfl)
def je (xs:List V) (lo hi:Option Int):List V:=(xs.drop (HT.sIx xs.length 0 lo)).take (HT.sIx xs.length xs.length hi - HT.sIx xs.length 0 lo)
theorem Dk (xs:List V) (lo hi:Option Int):(je xs lo hi).length<=xs.length:=by
 unfold je
 rw [iw,List.length_drop]
 omega
def qVe (K:Qb):V->Option Int->Option Int->Hp->VK->Prop:=λx lo hi H Q=>∃a xs,x=.ref a/\SqT K H a xs /\
 ¬(HT.sIx xs.length 0 lo=0/\HT.sIx xs.length xs.length hi=xs.length)/\∀p,H p=none->Q (.ref p) (aA H p (.tup (je xs lo hi)))
theorem qP8:SlR X (qVe X.K):=by
 intro pins s Z H x v vl vu lo hi sl Q I rx hs pl pu h
 obtain⟨a,xs,rfl,hx,hw,q⟩:=h
 cases rx
 obtain⟨its,r,ht,hz⟩:=I.tuple hx
 have hlen:its.toArray.size=xs.length:=by rw [aZ];exact r.length.symm
 refine⟨"tuple",_,yat.lookup,ht.typeIs,?_⟩
 refine HT.getItem_tuple_cut ht hs pl pu (by rw [hlen];exact hw) ?_ (by rw [hlen];exact hz)
 rw [hlen]
 refine⟨.ref s.heap.objs.size,_,I.laid (t':=s.toks) (o:=.tup (je xs lo hi)) (λb ob q=>Qg _ q) (aK _) ?_,rfl,q _ (I.hok.fresh (aK _))⟩
 exact⟨dR (Dk xs lo hi) hz,_,(r.drop (HT.sIx xs.length 0 lo)).take (HT.sIx xs.length xs.length hi - HT.sIx xs.length 0 lo),IsTup.new _ _⟩
def qS9 (K:Qb):R2:=λx y H Q=>∃a b xs ys,x=.ref a/\y=.ref b/\SqT K H a xs/\SqT K H b ys/\xs≠[]/\xs.length+ys.length<=sizeLine /\
 (ys=[]->Q (.ref a) H)/\(ys≠[]->∀p,H p=none->Q (.ref p) (aA H p (.tup (xs++ys))))
theorem Vals.nil_iff {xs:List V}{us:List Value}(r:Vals xs us):us=[]↔xs=[]:=by
 cases r with
 | nil=>simp
 | cons _ _=>simp
theorem qOm:OpR X (binaryOp .Add) (qS9 X.K):=by
 intro pins s Z H x y v u Q I rx ry h
 obtain⟨a,b,xs,ys,rfl,rfl,ha,hb,hx,hz,q1,q2⟩:=h
 cases rx
 cases ry
 obtain⟨its,r1,p1,_⟩:=I.tuple ha
 obtain⟨its2,r2,p2,_⟩:=I.tuple hb
 refine HT.cat_tup p1 p2 (λz=>hx (r1.nil_iff.mp z)) (λz=>⟨.ref a,H,I,rfl,q1 (r2.nil_iff.mp z)⟩) (λz=>?_) (by rw [<-r1.length,<-r2.length];exact hz)
 refine⟨.ref s.heap.objs.size,_,I.laid (t':=s.toks) (o:=.tup (xs++ys)) (λb ob q=>Qg _ q) (aK _) ?_,rfl,q2 (λw=>z (r2.nil_iff.mpr w)) _ (I.hok.fresh (aK _))⟩
 exact⟨by rw [i8];exact hz,_,r1.append r2,IsTup.new _ _⟩
end
end L2
namespace L2
open PySem PySem.Spec PyProof.Rows
noncomputable def ixN (n:Nat) (i:Int):Option Nat:=if 0<=i then (if i<n then some i.toNat else none) else if -(n:Int)<=i then some (i+n).toNat else none
def mK {α:Type}(xs:List α) (i:Int):Option α:=(ixN xs.length i).bind λj=>xs[j]?
theorem qOD {n:Nat}{i:Int}{j:Nat}(h:ixN n i=some j):seqIndex? i n=some j/\j<n/\-(n:Int)<=i/\i<n:=by
 unfold ixN at h
 by_cases h0:0<=i
 ·rw [Ql h0] at h
  by_cases h1:i<n
  ·rw [Ql h1] at h
   have e:i.toNat=j:=fU h
   exact⟨by rw [seqIndex_of h0 h1,e],by omega,by omega,h1⟩
  ·rw [Qm h1] at h;cases h
 ·rw [Qm h0] at h
  by_cases h1:-(n:Int)<=i
  ·rw [Ql h1] at h
   have e:(i+n).toNat=j:=fU h
   exact⟨by rw [seqIndex_neg (by omega) h1,e],by omega,h1,by omega⟩
  ·rw [Qm h1] at h;cases h
theorem Bb {α:Type}{xs:List α}{i:Int}{v:α}(h:mK xs i=some v):∃j,seqIndex? i xs.length=some j/\xs[j]?=some v/\j<xs.length/\-(xs.length:Int)<=i/\i<xs.length:=by
 unfold mK at h
 cases e:ixN xs.length i with
 | none=>rw [e] at h;cases h
 | some j =>
  rw [e] at h
  obtain⟨h1,h2,h3,h4⟩:=qOD e
  exact⟨j,h1,h,h2,h3,h4⟩
def qX (b:Expr):Prop:=∀o i,subscripted b false o i=operate [o,i] (getItem o i)
def IxR (X:Cx) (r:R2):Prop:=
 ∀(value slice:Expr) (pins:List (Addr×Obj)) (s:Shared) (Z:St) (H:Hp) (x y:V) (v u:Value) (Q:VK),Inv X pins Z H s->RelV x v->RelV y u->r x y H Q ->
   subscripted slice false v u=operate [v,u] (getItem v u)->wpAny (model X.prog X.w) X.A (subscriptTail value slice v u) (EP X pins Z Q) X.xe s
def Eh (X:Cx) (id:String) (r:V->List V->Hp->VK->Prop):Prop:=
 ∀(pins:List (Addr×Obj)) (s:Shared) (Z:St) (H:Hp) (x:V) (xs:List V) (v:Value) (us:List Value) (Q:VK),Inv X pins Z H s->RelV x v->Vals xs us->r x xs H Q ->
   wpAny (model X.prog X.w) X.A (call (.builtin id) (v::us)) (EP X pins Z Q) X.xe s
section
variable {X:Cx}{a b:Expr}{ta tb:TE}{pos:Pos}
theorem IxR.or {r r':R2}(h:IxR X r) (h':IxR X r'):IxR X (λx y H Q=>r x y H Q∨r' x y H Q):=by
 intro value slice pins s Z H x y v u Q I rx ry q hs
 rcases q with q|q
 ·exact h value slice pins s Z H x y v u Q I rx ry q hs
 ·exact h' value slice pins s Z H x y v u Q I rx ry q hs
theorem zI {r:R2}(hr:IxR X r) (ha:PE X a ta) (hb:PE X b tb) (hs:qX b):PE X (.Subscript a b pos) (pP r ta tb):=by
 intro pins s Z H Q I h
 exact Subscript_ (tX ha hb I h λv u s2 x y H2 I2 rx ry q=>hr a b pins s2 Z H2 x y v u Q I2 rx ry q (hs _ _))
def qVj (K:Qb):R2:=λx y H Q=>∃p xs i v,x=.ref p/\y=.int i/\SqL K H p xs/\mK xs i=some v/\Q v H
def qVi (K:Qb):R2:=λx y H Q=>∃p xs i v,x=.ref p/\y=.int i/\SqT K H p xs/\mK xs i=some v/\Q v H
theorem ix_list:IxR X (qVj X.K):=by
 intro value slice pins s Z H x y v u Q I rx ry h hs
 obtain⟨p,xs,i,z,rfl,rfl,hq,he,q⟩:=h
 cases rx
 obtain⟨t,rfl⟩:=ry
 obtain⟨its,r,pl,hz⟩:=I.list hq
 obtain⟨j,h1,h2,h3,h4,h5⟩:=Bb he
 obtain⟨w,ew,rw'⟩:=r.get h2
 have hl:=r.length
 have hn:=uC
 have fin:EP X pins Z Q w s:=⟨z,H,I,rw',q⟩
 by_cases h0:0<=i
 ·have hj:i.toNat=j:=by
   rw [seqIndex_of h0 h5] at h1
   exact fU h1
  exact item_listR pl.isList h0 (by omega) (by rw [hj];simpa using ew) fin hs
 ·have hj:(i+(its.toArray.size:Int)).toNat=j:=by
   rw [seqIndex_neg (by omega) h4] at h1
   rw [aZ,<-hl]
   exact fU h1
  exact subscriptTail_builtinR (x:=w) pl.isList.typeIs slot_list_getitem.lookup
   (wpAny_getItem_list_neg (Q:=λr s'=>r=w/\EP X pins Z Q r s') pl.isList (by omega) (by rw [aZ]<;>omega) (by omega) (by rw [hj];simpa using ew) ⟨rfl,fin⟩) hs
theorem Ac:IxR X (qVi X.K):=by
 intro value slice pins s Z H x y v u Q I rx ry h hs
 obtain⟨p,xs,i,z,rfl,rfl,hq,he,q⟩:=h
 cases rx
 obtain⟨t,rfl⟩:=ry
 obtain⟨its,r,pl,hz⟩:=I.tuple hq
 obtain⟨j,h1,h2,h3,h4,h5⟩:=Bb he
 obtain⟨w,ew,rw'⟩:=r.get h2
 have hl:=r.length
 have hn:=uC
 have fin:EP X pins Z Q w s:=⟨z,H,I,rw',q⟩
 exact subscriptTail_builtinR (x:=w) pl.typeIs slot_tuple_getitem.lookup
  (getItem_tuple (j:=j) (Q:=λr s'=>r=w/\EP X pins Z Q r s') pl (by omega) (by omega) (by rw [aZ,<-hl];exact h1) (by simpa using ew) ⟨rfl,fin⟩) hs
theorem qEK (lo hi:Option Int) (n:Nat):(sliceBounds lo hi none n).1=((HT.sIx n 0 lo:Nat):Int)/\(sliceBounds lo hi none n).2.1=((HT.sIx n n hi:Nat):Int)/\(sliceBounds lo hi none n).2.2=1:=by
 refine⟨?_,?_,rfl⟩
 ·cases lo with
  | none=>simp [sliceBounds,HT.sIx]
  | some i =>
   simp only [sliceBounds,HT.sIx,Option.getD_none,show (1:Int) > 0 by decide,if_true]
   by_cases h:i<0
   ·simp only [h,if_true]<;>omega
   ·simp only [h,if_false]<;>omega
 ·cases hi with
  | none=>simp [sliceBounds,HT.sIx]
  | some i =>
   simp only [sliceBounds,HT.sIx,Option.getD_none,show (1:Int) > 0 by decide,if_true]
   by_cases h:i<0
   ·simp only [h,if_true]<;>omega
   ·simp only [h,if_false]<;>omega
theorem qDX (its:List Value) (lo hi:Option Int):slicePick its.toArray lo hi none=((its.drop (HT.sIx its.length 0 lo)).take (HT.sIx its.length its.length hi - HT.sIx its.length 0 lo)).toArray:=by
 obtain⟨h1,h2,h3⟩:=qEK lo hi its.toArray.size
 unfold slicePick
 rw [h1,h2,h3]
 simp only [sliceRange_one,pick_run,aZ]<;>rfl
def qVf (K:Qb):V->Option Int->Option Int->Hp->VK->Prop:=λx lo hi H Q=>∃a xs,x=.ref a/\SqL K H a xs/\∀p,H p=none->Q (.ref p) (aA H p (.lst (je xs lo hi)))
theorem sl_list:SlR X (qVf X.K):=by
 intro pins s Z H x v vl vu lo hi sl Q I rx hs pl pu h
 obtain⟨a,xs,rfl,hx,q⟩:=h
 cases rx
 obtain⟨its,r,ht,hz⟩:=I.list hx
 have hlen:=r.length
 refine⟨"list",_,slot_list_getitem.lookup,ht.isList.typeIs,?_⟩
 refine wpAny_getItem_list_slice ht.isList hs pl pu .none (by simp) ?_ (by rw [aZ]<;>omega)
 rw [qDX,<-hlen]
 refine⟨.ref s.heap.objs.size,_,I.laid (t':=s.toks) (o:=.lst (je xs lo hi)) (λb ob q=>Qg _ q) (aK _) ?_,rfl,q _ (I.hok.fresh (aK _))⟩
 exact⟨dR (Dk xs lo hi) hz,_,0,(r.drop (HT.sIx xs.length 0 lo)).take (HT.sIx xs.length xs.length hi - HT.sIx xs.length 0 lo),Qh _ rfl⟩
theorem qFd:CallR X (.builtin "len") (λxs H Q=>∃p ys,xs=[.ref p]/\(SqL X.K H p ys∨SqT X.K H p ys)/\Q (.int ys.length) H):=by
 intro pins s Z H xs us Q I r h
 obtain⟨p,ys,rfl,hq,q⟩:=h
 obtain⟨u,rfl,rx⟩:=eY r
 cases rx
 have hn:=uC
 rcases hq with hq|hq
 ·obtain⟨its,r',pl,hz⟩:=I.list hq
  have hlen:=r'.length
  exact Calls.call_len_list pl.isList (by simp only [aZ]<;>omega) ⟨.int ys.length,H,I.tok _,⟨s.toks+1,by rw [aZ,hlen]⟩,q⟩
 ·obtain⟨its,r',pl,hz⟩:=I.tuple hq
  have hlen:=r'.length
  exact len_tuple pl (by simp only [aZ]<;>omega) ⟨.int ys.length,H,I.tok _,⟨s.toks+1,by rw [aZ,hlen]⟩,q⟩
theorem CallR.or {f:Value}{r r':List V->Hp->VK->Prop}(h:CallR X f r) (h':CallR X f r'):CallR X f (λxs H Q=>r xs H Q∨r' xs H Q):=by
 intro pins s Z H xs us Q I rs q
 rcases q with q|q
 ·exact h pins s Z H xs us Q I rs q
 ·exact h' pins s Z H xs us Q I rs q
theorem qFc:CallR X (.type "list") (λxs H Q=>∃p ys,xs=[.ref p]/\(SqL X.K H p ys∨SqT X.K H p ys)/\∀l,H l=none->Q (.ref l) (aA H l (.lst ys))):=by
 intro pins s Z H xs us Q I r h
 obtain⟨p,ys,rfl,hq,q⟩:=h
 obtain⟨u,rfl,rx⟩:=eY r
 cases rx
 have fin:∀(its:List Value),Vals ys its->ys.length<=sizeLine->∀(h':Heap) (c':Nat),(∀b o',s.heap.get? b=some o'->h'.get? b=some o') ->
   h'.get? s.heap.objs.size=some { cls:=.type "list",dict:=none,data:=.seq its.toArray c',slots:=#[] }->EP X pins Z Q (.ref s.heap.objs.size) { s with heap:=h' }:=λits r' hz h' c' kp e =>
  ⟨.ref s.heap.objs.size,_,I.laid (t':=s.toks) kp (aK _) (show ObjOk X.prog X.w _ h' _ (.lst ys) from ⟨hz,its,c',r',e⟩),rfl,q _ (I.hok.fresh (aK _))⟩
 rcases hq with hq|hq
 ·obtain⟨its,r',pl,hz⟩:=I.list hq
  have hlen:=r'.length
  obtain⟨o,ho,hc,n,hd⟩:=pl.isList
  exact call_list_seq p (.inl rfl) ho hc hd (λh' c' kp e=>fin its r' hz h' c' kp e) (by simp only [aZ]<;>omega)
 ·obtain⟨its,r',pl,hz⟩:=I.tuple hq
  have hlen:=r'.length
  obtain⟨o,ho,hc,n,hd⟩:=pl
  exact call_list_seq p (.inr rfl) ho hc hd (λh' c' kp e=>fin its r' hz h' c' kp e) (by simp only [aZ]<;>omega)
theorem qEm:CallR X (.type "tuple") (λxs H Q=>∃p ys,xs=[.ref p]/\((SqL X.K H p ys/\∀l,H l=none->Q (.ref l) (aA H l (.tup ys)))∨(SqT X.K H p ys/\Q (.ref p) H))):=by
 intro pins s Z H xs us Q I r h
 obtain⟨p,ys,rfl,h⟩:=h
 obtain⟨u,rfl,rx⟩:=eY r
 cases rx
 rcases h with ⟨hq,q⟩|⟨hq,q⟩
 ·obtain⟨its,r',pl,hz⟩:=I.list hq
  have hlen:=r'.length
  refine call_tuple_list pl.isList (λh' kp=>?_) (by simp only [aZ]<;>omega)
  have I1:Inv X pins Z H { s with heap:=h' }:=I.kept (t':=s.toks) kp
  have I2:Inv X pins Z (aA H h'.objs.size (.tup ys)) { s with heap:=h'.push { cls:=.type "tuple",data:=.seq its.toArray } }:=
   I1.laid (t':=s.toks) (λb o e=>Qg _ e) (aK _) (show ObjOk X.prog X.w _ _ _ (.tup ys) from ⟨hz,its,r',IsTup.new _ _⟩)
  exact⟨.ref h'.objs.size,_,I2,rfl,q _ (I1.hok.fresh (aK _))⟩
 ·obtain⟨its,r',pl,hz⟩:=I.tuple hq
  exact call_tuple_same pl ⟨.ref p,H,I,rfl,q⟩
def tF (K:Qb) (T:String) (x:V) (H:Hp):Prop:=match x with
 | .str _=>T="str"
 | .int _=>T="int"
 | .ref p=>(T="list"/\∃xs,SqL K H p xs)∨(T="tuple"/\∃o,K.lookup p=some o/\o.cls=.type "tuple"/\o.dict=none) ∨
   (T="dict"/\((∃kvs,H p=some (.dK kvs))∨∃kvs,H p=some (.dT kvs)))∨(T="set"/\∃S n,H p=some (.set S n))
 | _=>False
theorem AJ {pins:List (Addr×Obj)}{Z:St}{H:Hp}{s:Shared}{T:String}{x:V}{v:Value}(I:Inv X pins Z H s) (r:RelV x v) (ty:tF X.K T x H) :
  s.TypeIs v T/\∀a,v=.ref a->∃ob,s.heap.get? a=some ob/\ob.dict=none:=by
 cases x with
 | str z =>
  obtain⟨t,rfl⟩:=r
  cases (show T="str" from ty)
  exact⟨typeIs_str s z t,λ_ e=>nomatch e⟩
 | int i =>
  obtain⟨t,rfl⟩:=r
  cases (show T="int" from ty)
  exact⟨typeIs_int s i t,λ_ e=>nomatch e⟩
 | ref p =>
  cases r
  rcases ty with ⟨rfl,xs,hq⟩|⟨rfl,o,hk,hc,hd⟩|⟨rfl,hk⟩|⟨rfl,S,n,hk⟩
  ·obtain⟨its,_,pl,_⟩:=I.list hq
   refine⟨pl.isList.typeIs,λa e=>?_⟩
   cases e
   obtain⟨o,n,e,c,hd,_⟩:=pl
   exact⟨o,e,hd⟩
  ·refine⟨⟨o,I.kIn p o hk,hc⟩,λa e=>?_⟩
   cases e
   exact⟨o,I.kIn _ o hk,hd⟩
  ·have z:∃o,s.heap.get? p=some o/\o.ExactDict:=by
    rcases hk with ⟨kvs,hk⟩|⟨kvs,hk⟩
    ·obtain⟨_,_,_,_,o,_,_,e,ex,_⟩:=I.hok p _ hk
     exact⟨o,e,ex⟩
    ·obtain⟨_,_,_,_,o,_,_,e,ex,_⟩:=I.hok p _ hk
     exact⟨o,e,ex⟩
   obtain⟨o,e,ex⟩:=z
   refine⟨⟨o,e,ex.1⟩,λa e2=>?_⟩
   cases e2
   exact⟨o,e,ex.2.1⟩
  ·obtain⟨o,_,_,_,e,ex,_⟩:=I.hok p _ hk
   refine⟨⟨o,e,ex.1⟩,λa e2=>?_⟩
   cases e2
   exact⟨o,e,ex.2.1⟩
 | _=>exact False.elim ty
noncomputable def qU5 (K:Qb) (T:String) (r:V->List V->Hp->VK->Prop) (to:TE):TE:=fun Z H Q=>to Z H λx H1=>tF K T x H1/\r x [] H1 Q
noncomputable def tBM (K:Qb) (T:String) (r:V->List V->Hp->VK->Prop) (to:TE) (t:TA):TE:=fun Z H Q=>to Z H λx H1=>tF K T x H1/\t Z H1 λxs H2=>r x xs H2 Q
variable {o e:Expr}{es:List Expr}{to:TE}{t:TA}{name:Str}{apos cpos:Pos}{T id:String}{r:V->List V->Hp->VK->Prop}
theorem Al (pa:PlainAttrs T) (slot:Slot T name id) (hty:typeOf (.builtin id)=pure (.type "method_descriptor")) (hm:Eh X id r) (ho:PE X o to)
  (hbase:attributeBase o name X.env (eval o X.env)=eval o X.env:=by rfl) (hline:(apos.endLine == cpos.line)=true:=by rfl):PE X (.Call (.Attribute o name apos) [] [] cpos) (qU5 X.K T r to):=by
 intro pins s Z H Q I h
 refine wpAny_Call_method0_late hbase hline (aF (ho pins s Z H _ I h) λv s1 ⟨x,H1,I1,r1,ty,q1⟩=>?_)
 obtain⟨h1,h2⟩:=AJ I1 r1 ty
 exact⟨T,id,pa,slot,hty,h1,h2,Calls.callWith_builtin rfl (PySem.evalArgs_none (hm pins s1 Z H1 x [] v [] Q I1 r1 .nil q1))⟩
theorem zH (pa:PlainAttrs T) (slot:Slot T name id) (hty:typeOf (.builtin id)=pure (.type "method_descriptor")) (hm:Eh X id r) (ho:PE X o to) (ha:PA X (e::es) t)
  (hbase:attributeBase o name X.env (eval o X.env)=eval o X.env:=by rfl)
  (hfew:((backTo cpos (starEach (e::es) X.env)).all (λx=>!x.1)&&(backToKw cpos (keywordEach [] X.env)).all (λx=>x.1.isSome)
   && decide ((e::es).length+([]:List Keyword).length+(if ([]:List Keyword).isEmpty then 0 else 1)<30))=true:=by rfl)
  (hline:(apos.endLine == cpos.line)=true:=by rfl) (hs:starEach (e::es) X.env=(false,eval e X.env)::starEach es X.env:=by rfl) (hplain:(backTo cpos (starEach es X.env)).any (·.1)=false:=by rfl) :
  PE X (.Call (.Attribute o name apos) (e::es) [] cpos) (tBM X.K T r to t):=by
 intro pins s Z H Q I h
 refine wpAny_Call_method_late hbase hfew hline rfl (aF (ho pins s Z H _ I h) λv s1 ⟨x,H1,I1,r1,ty,q1⟩=>?_)
 obtain⟨h1,h2⟩:=AJ I1 r1 ty
 refine⟨T,id,pa,slot,hty,h1,h2,?_⟩
 have hA:=ha cpos pins s1 Z H1 _ I1 q1
 rw [hs] at hA ⊢
 refine Calls.callWith_builtin (by show (false||(backTo cpos (starEach es X.env)).any (·.1))=false;rw [hplain]<;>rfl) (Calls.evalArgs_plain ?_)
 exact aF hA λus s2 ⟨vs,H2,I2,r2,q2⟩=>hm pins s2 Z H2 x vs v us Q I2 r1 r2 q2
end
end L2
namespace L2
open PySem PySem.Spec PyProof.Rows
def kM (X:Cx) (id:String) (r:V->List V->Hp->VK->Prop):Prop:=
 ∀(pins:List (Addr×Obj)) (s:Shared) (Z:St) (H:Hp) (x:V) (xs:List V) (v:Value) (us:List Value) (Q:VK),Inv X pins Z H s->RelV x v->Vals xs us->r x xs H Q ->
   wpAny (model X.prog X.w) X.A (call (.builtin id) (v::us)) (EP X pins Z Q) X.xe s
theorem Vals.one:∀{x:V}{us:List Value},Vals [x] us->∃u,us=[u]/\RelV x u
 | _,_,.cons r .nil=>⟨_,rfl,r⟩
theorem Vals.zero:∀{us:List Value},Vals [] us->us=[]
 | _,.nil=>rfl
theorem Vals.dropLast {xs:List V}{us:List Value}(h:Vals xs us):Vals xs.dropLast us.dropLast:=by
 induction h with
 | nil=>exact .nil
 | cons r t ih =>
  cases t with
  | nil=>exact .nil
  | cons q t'=>exact .cons r ih
theorem Vals.reverse {xs:List V}{us:List Value}(h:Vals xs us):Vals xs.reverse us.reverse:=by
 induction h with
 | nil=>exact .nil
 | cons r t ih=>rw [mZ,mZ];exact Vals.append ih (.cons r .nil)
theorem Vals.rep {xs:List V}{us:List Value}(h:Vals xs us):∀k:Nat,Vals (List.replicate k xs).flatten (List.replicate k us).flatten
 | 0=>.nil
 | k+1=>by
  rw [kZ,kZ,px,px]
  exact Vals.append h (Vals.rep h k)
theorem qG5 {α:Type}(l:List α):l.eraseIdx (l.length - 1)=l.dropLast:=by
 induction l with
 | nil=>rfl
 | cons a r ih =>
  cases r with
  | nil=>rfl
  | cons b r =>
   have e:(a::b::r).length - 1=((b::r).length - 1)+1:=by
    have h1:(a::b::r).length=r.length+2:=rfl
    have h2:(b::r).length=r.length+1:=rfl
    omega
   rw [e,List.eraseIdx_cons_succ,ih]
   all_goals rfl
theorem CV (its:List Value):∀(k:Nat) (acc:List Value),
  List.foldl (λx1 x2=>x1++x2) acc.toArray (List.replicate k its.toArray)=(acc++(List.replicate k its).flatten).toArray
 | 0,acc=>by simp
 | k+1,acc=>by
  have e:acc.toArray++its.toArray=(acc++its).toArray:=by simp
  have e2:(acc++its)++(List.replicate k its).flatten=acc++(List.replicate (k+1) its).flatten:=by
   rw [kZ,px,mY]
  rw [<-e2,<-CV its k (acc++its),<-e,kZ,sU]
section
variable {X:Cx}{pins:List (Addr×Obj)}{Z:St}{H:Hp}{s:Shared}{l b:Addr}{xs ys zs:List V}
theorem Inv.lset {its its':List Value}{n:Nat}{f:Array Value->Array Value}{t':Nat}(I:Inv X pins Z H s) (hH:H l=some (.lst xs))
  (e:s.heap.get? l=some { cls:=.type "list",data:=.seq its.toArray n }) (hf:f its.toArray=its'.toArray) (hv:Vals ys its') (hz:ys.length<=sizeLine) :
  Inv X pins Z (aA H l (.lst ys)) { s with heap:=s.heap.update l (Obj.mapSeq f),toks:=t' }:=by
 have q:=PySem.IsL.update e f
 rw [hf] at q
 refine I.write (x:=l) (e:=l) (by rw [hH];exact trivial) (.inl rfl) (λb' u hb hu=>(Heap.get?_update_other s.heap (Obj.mapSeq f) (Ne.symm hb)).trans hu) ⟨_,q⟩ ?_
 exact⟨hz,its',_,hv,q⟩
theorem Inv.lnew {its:List Value}{t':Nat}(I:Inv X pins Z H s) (hv:Vals ys its) (hz:ys.length<=sizeLine) :
  Inv X pins Z (aA H s.heap.objs.size (.lst ys)) { s with heap:=s.heap.push { cls:=.type "list",data:=.seq its.toArray },toks:=t' }:=
 I.laid (λ_ _ q=>Qg _ q) (aK _) ⟨hz,its,0,hv,Qh _ rfl⟩
theorem Inv.fresh (I:Inv X pins Z H s):H s.heap.objs.size=none:=I.hok.fresh (aK _)
theorem Inv.lstM (I:Inv X pins Z H s) (hH:H l=some (.lst xs)):xs.length<=sizeLine/\∃(its:List Value) (n:Nat),Vals xs its/\xs.length=its.length/\s.heap.get? l=some { cls:=.type "list",data:=.seq its.toArray n }:=by
 obtain⟨z,its,n,r,e⟩:=I.hok l _ hH
 exact⟨z,its,n,r,r.length,e⟩
theorem vC {n:Nat}(h:n<=sizeLine):Builtin.List.listTooLong n=false:=by
 unfold Builtin.List.listTooLong
 exact Qj (by omega)
end
section
variable {X:Cx}
def qNZ:V->List V->Hp->VK->Prop:=λx vs H Q=>∃l xs y,x=.ref l/\vs=[y]/\H l=some (.lst xs)/\xs.length<sizeLine/\Q .non (aA H l (.lst (xs++[y])))
theorem CZ:kM X "list.append" qNZ:=by
 intro pins s Z H x vs v us Q I rx rv h
 obtain⟨l,xs,y,rfl,rfl,hH,hz,q⟩:=h
 cases rx
 obtain⟨u,rfl,ru⟩:=rv.one
 obtain⟨z,its,n,r,hl,e⟩:=I.lstM hH
 refine call_meets F.slot_list_append ⟨_,e,rfl⟩ F.entry_list_append (F.args_list_append_2 _ _) (PySem.list_append l its.toArray n u (by rw [aZ];omega)) ⟨e,?_⟩
 refine⟨.non,_,I.lset (its':=its++[u]) hH e (by simp) (r.append (.cons ru .nil)) ?_,rfl,q⟩
 rw [i8,List.length_singleton]
 omega
def qNY:V->List V->Hp->VK->Prop:=λx vs H Q=>∃l b xs zs,x=.ref l/\vs=[.ref b]/\H l=some (.lst xs)/\H b=some (.lst zs)/\xs.length+zs.length<=sizeLine/\Q .non (aA H l (.lst (xs++zs)))
theorem qIs:kM X "list.extend" qNY:=by
 intro pins s Z H x vs v us Q I rx rv h
 obtain⟨l,b,xs,zs,rfl,rfl,hH,hB,hz,q⟩:=h
 cases rx
 obtain⟨u,rfl,ru⟩:=rv.one
 cases ru
 obtain⟨z,its,n,r,hl,e⟩:=I.lstM hH
 obtain⟨z2,its2,n2,r2,hl2,e2⟩:=I.lstM hB
 have hsz:its.toArray.size+its2.toArray.size<=sizeLine:=by rw [aZ,aZ];omega
 have hlong:¬(!its.toArray.isEmpty&&Builtin.List.listTooLong (its.toArray.size+its2.toArray.size))=true:=by
  rw [vC hsz,kX]
  exact fD
 refine call_meets F.slot_list_extend ⟨_,e,rfl⟩ F.entry_list_extend (F.args_list_extend_2 _ _)
  (AutoSeq1.list_extend_list_list_0 l its.toArray n b its2.toArray n2 hlong (by rw [aZ];omega) (by omega)) ⟨e,e2,?_⟩
 refine⟨.non,_,I.lset (its':=its++its2) hH e (by simp) (r.append r2) ?_,rfl,q⟩
 rw [i8]
 omega
def qVh:V->List V->Hp->VK->Prop:=λx vs H Q=>∃l xs y,x=.ref l/\vs=[]/\H l=some (.lst xs)/\xs[xs.length - 1]?=some y/\Q y (aA H l (.lst xs.dropLast))
theorem Ad:kM X "list.pop" qVh:=by
 intro pins s Z H x vs v us Q I rx rv h
 obtain⟨l,xs,y,rfl,rfl,hH,hy,q⟩:=h
 cases rx
 have hus:=rv.zero
 subst hus
 obtain⟨z,its,n,r,hl,e⟩:=I.lstM hH
 obtain⟨u,hu,ru⟩:=r.get hy
 have hy':its.toArray[its.toArray.size - 1]?=some u:=by
  show its.toArray[its.length - 1]?=some u
  rw [<-Array.getElem?_toList,<-hl]
  exact hu
 refine call_meets F.slot_list_pop ⟨_,e,rfl⟩ F.entry_list_pop (F.args_list_pop_1 _) (MeetsSeq.list_pop_last l its.toArray n u hy' (by rw [aZ];omega)) ⟨e,?_⟩
 refine⟨y,_,I.lset (its':=its.dropLast) hH e ?_ r.dropLast ?_,ru,q⟩
 ·show its.toArray.eraseIdxIfInBounds (its.toArray.size - 1)=its.dropLast.toArray
  rw [aZ,List.eraseIdxIfInBounds_toArray,qG5]
 ·rw [List.length_dropLast]
  omega
theorem qOB {α:Type}(xs:List α) (k:Nat):(List.replicate k xs).flatten.length=k * xs.length:=by
 induction k with
 | zero=>simp
 | succ k ih=>rw [kZ,px,i8,ih,Nat.succ_mul,Nat.add_comm]
end
end L2
namespace Att
open PySem PySem.W PySem.Calls PyProof.Rows
theorem qDq {P:Params}{h:Heap}:∀(ns:List Int) (vs:List Value),WellAll P h vs (ns.map WData.int)->IntsAre vs ns:=by
 intro ns
 induction ns with
 | nil =>
  intro vs w
  rw [List.map_nil] at w
  cases w
  exact .nil
 | cons n ns ih =>
  intro vs w
  rw [gQ] at w
  cases w with
  | cons a b =>
   cases a
   exact .cons _ _ (ih _ b)
theorem script_of {l:OpenLaw}{n:Nat}(hn:l.most=some n) {P:Params}{h:Heap}{args:List WData}{vals:List Value}
  (hpre:l.row.toRowW.claim.pre args=true) (hwl:WellAll P h vals args) :
  ∃a vs ns,vals=[Value.ref a]/\args=[WData.list (ns.map WData.int)]/\h.get? a=some { cls:=.type "list",data:=.seq vs.toArray }/\IntsAre vs ns/\ns.length<=n:=by
 have hsh:WShape.hasAll [] args [.list .int]=true:=(pre_splitW hpre).1
 have hc:l.pre.holds [] { args:=args }=true:=(pre_splitW hpre).2
 obtain⟨d,r,rfl,h1,h2⟩:=hasAllW_cons hsh
 obtain rfl:=hasAllW_nil h2
 obtain⟨xs,rfl,h3⟩:=hasW_list h1
 obtain⟨ns,rfl⟩:=items_int h3
 have hlen:ns.length<=n:=by
  unfold OpenLaw.pre at hc
  have h4:(WTm.not (.lt (.lit (.int (n:Int))) (.len (.arg 0)))).holds [] { args:=[.list (ns.map .int)] }=true:=by
   have h4:=(holds_andW hc).1
   rw [hn] at h4
   exact h4
  have h5:=condW_of h4 (w_not (w_lt w_lit (w_len_list (w_arg rfl))))
  rw [fV] at h5
  refine sZ λq=>?_
  have q':(n:Int)<((ns.length:Nat):Int):=by omega
  first
   | (rw [Qk q'] at h5;exact Qn h5 (by decide))
   | (simp at h5;omega)
 cases hwl with
 | cons w1 w2 =>
  cases w2
  cases w1 with
  | list ho hall=>exact⟨_,_,ns,rfl,rfl,ho,qDq ns _ hall,hlen⟩
theorem post_true (l:OpenLaw) (args:List WData):l.row.toRowW.claim.post args (.bool true) args=true:=
 postW_of (r:=l.row.toRowW) (X:=(true == true))
  (show WShape.has [] (.bool true) .bool=true by first|rfl|decide|simp [WShape.has,WShape.arms,WShape.armsAll])
  (show (WTm.eq .res (.lit (.bool true))).value [] { args:=args,res:=some (.bool true),after:=args }=some (.bool (true == true)) from w_eq_bool (w_res rfl) w_lit) rfl
end Att
namespace L2
open PySem PySem.Spec PyProof.Rows
theorem vL:∀{vs:List Value}{ns:List Int},IntsAre vs ns->Vals (ns.map V.int) vs
 | _,_,.nil=>.nil
 | _,_,.cons n t h=>.cons ⟨t,rfl⟩ (vL h)
def za (H:Hp):Prop:=∀b,H b=none∨∃o xs,H b=some (.frz o (.lst xs))
theorem law_call {P:Program}{w:World}{K:Qb}{mg mb:Str->Option Value}{CX:il}{k:Nat}{fa a:Addr}{fd:FuncData}{x:Str}{sp:Sp}{s₁:Shared}{vs:List Value}{ns:List Int}
  (KX:K.In s₁.heap) (hns:s₁.heap.Ns mainGlobals mg) (hb:s₁.heap.Ns builtinsNs mb) (hbb:∀x:Str,x≠"__name__"->mb x=Qo x) (hlim:s₁.heap.NoLimit) (hg:s₁.gens=#[])
  (ha:s₁.heap.get? a=some { cls:=.type "list",data:=.seq vs.toArray }) (hi:IntsAre vs ns) (hl:ns.length<=sizeLine) (hr:Room k callerA)
  (F:∀base:Heap,K.In base->base.Ns mainGlobals mg->FnOk P w K mg base CX k fa fd [x] sp) (hbind:∀(s:Shared) (u:Value),BindsTo s fd ⟨[u],[]⟩ [(x,u)])
  (hsp:∀H:Hp,za H->SqL K H a (ns.map V.int)->sp [.ref a] H (λv _=>v=.bl true) λ_ _ _=>False)
  (hCX:∀H e s',CX [] H s₁ (λ_ _ _=>False) e s'->False) :
  codeAny (model P w) callerA (.call (.ref fa) ⟨[.ref a],[]⟩) (λr s'=>r=.ok (.ret (.bool true))/\OldK s₁.heap s'.heap/\s'.os=s₁.os/\AllBare s'.gens) s₁:=by
 have rv:=vL hi
 have lenV:=hi.length
 have core:∀H:Hp,za H->SqL K H a (ns.map V.int)->HOk P w H s₁.heap->(∀b,H b≠none->b=a)->(H a≠none->K.lookup a=none) ->
   codeAny (model P w) callerA (.call (.ref fa) ⟨[.ref a],[]⟩) (λr s'=>r=.ok (.ret (.bool true))/\OldK s₁.heap s'.heap/\s'.os=s₁.os/\AllBare s'.gens) s₁:=by
  intro H hO hS hok hA hK
  have base_of:∀{b:Addr} {o:Obj},s₁.heap.get? b=some o->H b=none->(iD s₁.heap H).get? b=some o:=λe n=>qLf e n
  have noA:∀{b:Addr} {o:Obj} {es:Array DictEntry} {ep:Nat},s₁.heap.get? b=some o->o.data=.dict es ep->H b=none:=λ{b o es ep} e d=>by
   cases q:H b with
   | none=>rfl
   | some u =>
    have e':b=a:=hA b (by rw [q];simp)
    subst e'
    rw [ha] at e;cases e
    have d':Data.seq vs.toArray _=Data.dict es ep:=d
    cases d'
  have nsK:∀{b:Addr} {m:Str->Option Value},s₁.heap.Ns b m->(iD s₁.heap H).Ns b m:=λ{b m} ⟨o,es,ep,e,d,r⟩=>⟨o,es,ep,base_of e (noA e d),d,r⟩
  have hKb:K.In (iD s₁.heap H):=λb o e=>base_of (KX b o e) (by
   cases q:H b with
   | none=>rfl
   | some u =>
    have e':b=a:=hA b (by rw [q];simp)
    subst e'
    rw [hK (by rw [q];simp)] at e;cases e)
  have hM:Mod K mg (iD s₁.heap H):=⟨hKb,nsK hns,⟨mb,nsK hb,hbb⟩,let ⟨mc,h1,h2⟩:=hlim;⟨mc,nsK h1,h2⟩⟩
  have e0:Env0 P w K mg (iD s₁.heap H) callerA [] s₁ H:=⟨rfl,hM,λb o e=>qOo e,Nat.le_of_eq (qIJ _ _),trivial,λb hb=>Qn (show b∈([]:List Addr) from hb) (by simp),hok,.of_eq hg⟩
  refine codeAny_mono ((F _ hKb (nsK hns)).run callerA [] s₁ H ⟨[.ref a],[]⟩ [.ref a] [.ref a] _ _ hr e0 (hbind s₁ (.ref a)) (.cons rfl .nil) (hsp H hO hS)) λr s' h=>?_
  cases r with
  | error e=>exact (hCX H e s' h).elim
  | ok fl =>
   cases fl with
   | next=>exact False.elim h
   | brk=>exact False.elim h
   | cont=>exact False.elim h
   | ret u =>
    obtain⟨v,H',os,bare,un,hok',r',q⟩:=h
    have q':v=.bl true:=q
    subst q'
    obtain rfl:u=Value.bool true:=r'
    refine⟨rfl,OldK.of_keep λb o e=>?_,os,bare⟩
    cases q:H b with
    | none=>exact un.keep b o e q (by intro z;exact Qn (show b∈([]:List Addr) from z) (by simp)) (by simp)
    | some u =>
     rcases hO b with z|⟨ob,xs,z⟩
     ·rw [q] at z;cases z
     ·have z2:=un.frzs b ob _ z
      obtain⟨e1,_⟩:=hok b _ z
      obtain⟨e2,_⟩:=hok' b _ z2
      rw [e] at e1;cases e1
      exact e2
 cases hk:K.lookup a with
 | some o =>
  have e:=KX a o hk
  rw [ha] at e
  cases e
  refine core (λ_=>none) (λ_=>.inl rfl) (.inr ⟨_,vs.toArray,_,hk,rfl,rfl,rfl,by rw [aZ,lenV];exact hl,by simpa using rv⟩) (λb u z=>by have z':(none:Option HO)=some u:=z;cases z') (λb z=>Qn rfl z) λz=>Qn rfl z
 | none =>
  refine core (λb=>if b=a then some (.frz { cls:=.type "list",data:=.seq vs.toArray } (.lst (ns.map V.int))) else none) (λb=>?_) (.inl (.inr ⟨{ cls:=.type "list",data:=.seq vs.toArray },Ql rfl⟩)) (λb u z=>?_) (λb z=>?_) λ_=>hk
  ·by_cases hb:b=a
   ·exact .inr ⟨_,_,Ql hb⟩
   ·exact .inl (Qm hb)
  ·by_cases hb:b=a
   ·have z':=(Ql hb).symm.trans z
    cases z'
    subst hb
    exact⟨ha,by rw [fV];exact hl,vs,_,rv,ha⟩
   ·have z':=(Qm hb).symm.trans z
    cases z'
  ·by_cases hb:b=a
   ·exact hb
   ·exact Qn (Qm hb) z
end L2
namespace L2
open PySem PySem.Spec PyProof.Rows
noncomputable abbrev fg:il:=λ_ _ _ _ _ _=>False
noncomputable abbrev E0:XK:=λ_ _ _=>False
theorem nz {X:Cx}:jr fg X E0:=λ_ _ _ _ _ _ _ h=>h.elim
structure Fun (K:Qb) (x qual:Str) (st:Stmt) (f:Addr) (fd:FuncData):Prop where
 ex:∃(oc:Value) (od:Option Addr) (kV doc pm:Value) (an:Option Addr) (cdv ct:Value) (osl:Array (Option Value)),
  fd=PySem.W.fnOf x qual (gB st) (dC st) (aL st) .none kV doc pm an cdv ct/\K.lookup f=some ⟨oc,od,.func fd,osl⟩/\PySem.W.codeIn K cdv qual=true
 kp:PySem.W.keepIn K (.ref f)=true
section
variable {P:Program}{w:World}{K:Qb}{mg:Str->Option Value}{base:Heap}
theorem Fun.binds {x qual:Str}{st:Stmt}{f:Addr}{fd:FuncData}{ps:List Str}(F:Fun K x qual st f fd)
  (h:∀(kV doc pm:Value) (an:Option Addr) (cdv ct:Value) (us:List Value),us.length=ps.length->bindArgs (PySem.W.fnOf x qual (gB st) (dC st) (aL st) .none kV doc pm an cdv ct) ⟨us,[]⟩=pure (ps.zip us)):Binds K fd ps []:=by
 obtain⟨oc,od,kV,doc,pm,an,cdv,ct,osl,rfl,lk,hcd⟩:=F.ex
 exact .all (h kV doc pm an cdv ct)
theorem j7 {x qual:Str}{st:Stmt}{f:Addr}{oc:Value}{od an:Option Addr}{osl:Array (Option Value)}{kV doc pm cdv ct:Value}(l:K.lookup f=some ⟨oc,od,.func (PySem.W.fnOf x qual (gB st) (dC st) (aL st) .none kV doc pm an cdv ct),osl⟩)
  (c:PySem.W.codeIn K cdv qual=true) (k:PySem.W.keepIn K (.ref f)=true):Fun K x qual st f (PySem.W.fnOf x qual (gB st) (dC st) (aL st) .none kV doc pm an cdv ct):=⟨⟨oc,od,kV,doc,pm,an,cdv,ct,osl,rfl,l,c⟩,k⟩
end
theorem pU {A B:Prop}(h:B):if false=true then A else B:=by
 rw [Qm fD]
 exact h
theorem pV {A B:Prop}(h:A):if true=true then A else B:=by
 rw [Ql rfl]
 exact h
def Same (H H':Hp):Prop:=∀b o,H b=some o->H' b=some o
theorem Same.refl (H:Hp):Same H H:=λ_ _ h=>h
theorem Same.trans {H H1 H2:Hp}(a:Same H H1) (b:Same H1 H2):Same H H2:=λc o h=>b c o (a c o h)
theorem Same.free {H H':Hp}(e:Same H H') {l:Addr}(h:H' l=Option.none):H l=Option.none:=by
 cases q:H l with
 | none=>rfl
 | some o =>
  rw [e l o q] at h
  cases h
end L2
namespace Dw
open PySem PySem.Spec PyProof.Rows L2
def iX (lo st:Int) (n:Nat):It:={ go:=λi _=>i<n,yld:=λi H x H'=>H'=H/\x=V.int (lo+(i:Nat) * st),stop:=λi _=>n<=i }
theorem AV (a b c:Int):Builtin.Range.rangeSize a b c=eJ a b c:=rfl
theorem AU (a b c:Int) (h:c≠0):0<=eJ a b c/\eJ a b c<=(b - a).natAbs:=by
 unfold eJ
 split
 ·split
  ·have h1:0<=(b - a - 1) / c:=Int.ediv_nonneg (by omega) (by omega)
   have h2:(b - a - 1) / c<=b - a - 1:=Int.ediv_le_self _ (by omega)
   omega
  ·omega
 ·split
  ·have h1:0<=(a - b - 1) / -c:=Int.ediv_nonneg (by omega) (by omega)
   have h2:(a - b - 1) / -c<=a - b - 1:=Int.ediv_le_self _ (by omega)
   omega
  ·omega
theorem qH0 (h1:-(2^62)<=a) (h2:a<2^62) (h3:-(2^62)<=b) (h4:b<2^62) (h5:c≠0) (h6:c.natAbs<2^30):Builtin.Range.small a b c=true:=by
 have hb:=AU a b c h5
 unfold Builtin.Range.small
 rw [AV]
 generalize eJ a b c=z at hb
 have f:∀x:Int,-(2^63)<=x->x<2^63->Builtin.Range.rangeFitsLong x=true:=by
  intro x p q
  simp [Builtin.Range.rangeFitsLong];omega
 rw [f a (by omega) (by omega),f b (by omega) (by omega),f c (by omega) (by omega),f z (by omega) (by omega)]
 simp only [Bool.true_and,fC]
 right
 split
 ·exact f _ (by omega) (by omega)
 ·exact f _ (by omega) (by omega)
theorem vy {K:Qb}{tg:Expr}(j:Addr) (lo st:Int) (n:Nat):Turn P w K tg (iX lo st n) [j] j (λi h=>IsRangeIter h j (lo+(i:Nat) * st) ((n:Int) - (i:Nat)) st) where
 mem:=by simp
 obj:=λi h y b hb=>by
  have e:b=j:=by simpa using hb
  subst e
  exact⟨_,y,λv z=>by
   have z':Data.fields _=Data.cell v:=z
   cases z'⟩
 keep:=λi h h' y k=>k j (by simp) _ y
 item:=by
  intro X hP hw hK hc i pins s Z H E I hf y hg
  subst hP hw hK
  obtain⟨u0,u1,u2,u3,u4,u5⟩:=hf j (by simp)
  have W:=Walks.range (prog:=X.prog) (w:=X.w) (I.ok.hd hc) j lo st n
  refine W.item i s _ _ hg y λv h' tk hv y' kk=>?_
  obtain⟨t,rfl⟩:=hv
  have J:Inv X pins Z H { s with heap:=h',toks:=tk }:=I.turned (λb o hb e=>kk b o (by simpa using hb) e) u0 u1 u3 u4 u5
  exact⟨_,rfl,nB (s:={ s with heap:=h',toks:=tk }) (n:="range_iterator") y' rfl rfl (by decide) ⟨.int (lo+i * st),H,J,⟨t,rfl⟩,⟨rfl,rfl⟩,y',λb hb=>(hf b hb).1⟩⟩
 done:=by
  intro X hP hw hK hc i pins s Z H E I hf y hg
  subst hP hw hK
  obtain⟨u0,u1,u2,u3,u4,u5⟩:=hf j (by simp)
  exact wpAny_pyNext_range_end (I.ok.hd hc) y (by have:n<=i:=hg;omega) λh' eb=>⟨rfl,I.turned (t':=s.toks) (λb o hb e=>eb b o hb e) u0 u1 u3 u4 u5⟩
 self:=λ_ _ _ _ _ y h=>wpAny_pyIter_rangeiter y h
section
variable {X:Cx}{tg:Expr}
theorem qPY {R:It->Hp->Prop}{E:Value->Shared->Prop}{lo hi st:Int}{t u v:Tok}{tk:Nat}(I:L2.Inv X pins Z H s) (h1:-(2^62)<=lo) (h2:lo<2^62) (h3:-(2^62)<=hi) (h4:hi<2^62) (h5:st≠0) (h6:st.natAbs<2^30)
  (q:R (iX lo st (eJ lo hi st).toNat) H):wpAny (model X.prog X.w) X.A (pyIter (.ref s.heap.objs.size)) (oN X pins Z tg R) E { s with heap:=s.heap.push { cls:=.type "range",data:=.fields #[.int lo t,.int hi u,.int st v] },toks:=tk }:=by
 refine wpAny_pyIter_range (IsRange.new ..) (qH0 h1 h2 h3 h4 h5 h6) ?_
 have J:Inv X pins Z H { s with heap:=s.heap.push { cls:=.type "range",data:=.fields #[.int lo t,.int hi u,.int st v] },toks:=tk }:=I.kept λb o e=>Qg _ e
 refine⟨(s.heap.push { cls:=.type "range",data:=.fields #[.int lo t,.int hi u,.int st v] }).objs.size,[(s.heap.push { cls:=.type "range",data:=.fields #[.int lo t,.int hi u,.int st v] }).objs.size],_,_,H,rfl,
  J.kept (t':=tk) λb o e=>Qg _ e,vy _ lo st (eJ lo hi st).toNat,?_,λb hb=>?_,q⟩
 ·have e1:lo+((0:Nat):Int) * st=lo:=by simp
  have e2:(((eJ lo hi st).toNat:Nat):Int) - ((0:Nat):Int)=Builtin.Range.rangeSize lo hi st:=by
   have:=AU lo hi st h5
   rw [AV];omega
  show IsRangeIter _ _ (lo+((0:Nat):Int) * st) ((((eJ lo hi st).toNat:Nat):Int) - ((0:Nat):Int)) st
  rw [e1,e2]
  exact Qh _ rfl
 ·have e:b=(s.heap.push { cls:=.type "range",data:=.fields #[.int lo t,.int hi u,.int st v] }).objs.size:=by simpa using hb
  subst e
  exact J.fpOk (aK _) (J.hok.fresh (aK _))
def qTE (ta:TA):TI:=fun Z H R=>ta Z H λvs H1=>∃i j c:Int,vs=[.int i,.int j,.int c]/\(-(2^62)<=i/\i<2^62/\-(2^62)<=j/\j<2^62/\c≠0/\c.natAbs<2^30)/\R (iX i c (eJ i j c).toNat) H1
theorem qIq (x y:Int) (h:y.natAbs<2^30):Builtin.divisionGoesByPylong x y=false:=by
 unfold Builtin.divisionGoesByPylong
 simp only [Bool.and_eq_false_iff,decide_eq_false_iff_not]
 left
 split
 ·decide
 ·have:y.natAbs.log2<30:=by
   by_cases h0:y.natAbs=0
   ·rw [h0];decide
   ·exact (pC h0).mpr h
  omega
theorem qIg {ta:TA}{p pos:Pos}(hg:Gl X "range") (hm:X.mg "range"=none) (ha:PA X [a,b,c] ta) (hs:starEach [a,b,c] X.env=[(false,eval a X.env),(false,eval b X.env),(false,eval c X.env)]) (hs2:starEach [b,c] X.env=[(false,eval b X.env),(false,eval c X.env)]) :
  PI X tg (.Call (.Name "range" p) [a,b,c] [] pos) (qTE ta):=by
 intro pins s Z H R I h
 refine Call_ (f9 I hg hm boot_range (gP (aF (ha pos pins s Z H _ I h) λus s1 ⟨vs,H1,J,r1,q1⟩=>?_) (by rw [hs,hs2]) (by rw [hs2];rfl)))
 obtain⟨i,j,k,e,⟨q1,q2,q3,q4,q5,q6⟩,q⟩:=q1
 subst e
 cases r1 with
 | cons r rr =>
  cases rr with
  | cons r' rr =>
   cases rr with
   | cons r'' rr =>
    cases rr
    obtain⟨t,rfl⟩:=r
    obtain⟨t',rfl⟩:=r'
    obtain⟨t'',rfl⟩:=r''
    exact call_range_3 q5 (qPY J q1 q2 q3 q4 q5 q6 q) (.inl (qIq _ _ q6))
end
end Dw
namespace Dw
open PySem PySem.Spec PyProof.Rows L2
section
variable {prog:Program}{w:World}{A:Around}{E:Value->Shared->Prop}{s:Shared}
theorem qGN:isSubtype (.type "range_iterator") (.type "reversed")=pure false:=by rw [isSubtype_type];kernel_rfl
noncomputable def jW (N:Nat):Obj:={ cls:=.type "range_iterator",data:=.fields #[rawInt ((N:Int) - 1),rawInt (N:Int),rawInt (-1)] }
theorem B9 (n:Int):Builtin.Range.rangeSize 0 n 1=(n.toNat:Int):=by
 unfold Builtin.Range.rangeSize
 rw [Ql (by omega)]
 split<;>omega
theorem qKD (hr:IsRange s.heap r a b c t u v) (h:Q (a,b,c) s):wpAny (model prog w) A (Builtin.Range.rangeFields (.ref r)) Q E s:=by
 unfold Builtin.Range.rangeFields
 refine Qc (Qf hr rfl (x:=.int a t) rfl ?_)
 refine Qc (wpAny_of_eq (a:=some a) rfl ?_)
 refine Qc (Qf hr rfl (x:=.int b u) rfl ?_)
 refine Qc (wpAny_of_eq (a:=some b) rfl ?_)
 refine Qc (Qf hr rfl (x:=.int c v) rfl ?_)
 refine Qc (wpAny_of_eq (a:=some c) rfl ?_)
 exact Qd h
theorem qNP (hr:IsRange s.heap r 0 n 1 t u v) (h1:-(2^62)<=n) (h2:n<2^62)
  (h:Q (.ref s.heap.objs.size) { s with heap:=s.heap.push (jW n.toNat) }):wpAny (model prog w) A (call (.builtin "range.__reversed__") [.ref r]) Q E s:=by
 have hT:s.TypeIs (.ref r) "range":=⟨_,hr,rfl⟩
 refine wpAny_call_entry F.slot_range_reversed hT F.entry_range_reversed ?_ (F.args_range_reversed_1 _)
 unfold Builtin.«range.__reversed__»
 refine Qc (wpAny_of_eq (a:=Value.ref r) rfl ?_)
 refine Qc (qKD hr ?_)
 have f:∀x:Int,-(2^63)<=x->x<2^63->Builtin.Range.rangeFitsLong x=true:=by
  intro x p q
  simp [Builtin.Range.rangeFitsLong];omega
 have hs:(Builtin.Range.rangeFitsLong 0&&Builtin.Range.rangeFitsLong n&&Builtin.Range.rangeFitsLong 1&&Builtin.Range.rangeFitsLong (-1)&&Builtin.Range.rangeFitsLong (0 - 1)&&Builtin.Range.rangeFitsLong (Builtin.Range.rangeSize 0 n 1))=true:=by
  rw [B9,f 0 (by omega) (by omega),f n (by omega) (by omega),f 1 (by omega) (by omega),f (-1) (by omega) (by omega),f (0 - 1) (by omega) (by omega),f _ (by omega) (by omega)];rfl
 simp only [hs,Bool.not_true,jM,if_false,if_true]
 refine Qc (wpAny_newObj_type (Qd ⟨_,rfl,?_⟩))
 have e:jW n.toNat={ cls:=.type "range_iterator",data:=.fields [rawInt (0+(Builtin.Range.rangeSize 0 n 1 - 1) * 1),rawInt (Builtin.Range.rangeSize 0 n 1),rawInt (-1)].toArray }:=by
  rw [B9];unfold jW;rw [show (0:Int)+(((n.toNat:Nat):Int) - 1) * 1=(n.toNat:Int) - 1 by omega]
 rw [e] at h
 exact h
theorem qQd (hr:IsRange s.heap r 0 n 1 t u v) (h1:-(2^62)<=n) (h2:n<2^62)
  (h:Q₁ (.ref s.heap.objs.size) { s with heap:=s.heap.push (jW n.toNat) }):codeAny (model prog w) A (.call (.builtin "reversed.__new__") ⟨[.type "reversed",.ref r],[]⟩) (wants Q₁ E) s:=by
 have hT:s.TypeIs (.ref r) "range":=⟨_,hr,rfl⟩
 refine codeAny_of_tree (show wpAny _ A.in1 (do checkBuiltinCall "reversed.__new__" ⟨[.type "reversed",.ref r],[]⟩;again (.builtin "reversed.__new__" ⟨[.type "reversed",.ref r],[]⟩)) _ _ s from ?_)
 refine Qc (wpAny_of_eq (F.newCall_reversed_1 _) (Qd ⟨plainId_quiet F.plain_reversed_new _,codeAny_builtin F.entry_reversed_new ?_⟩))
 rw [Around.under_plainId F.plain_reversed_new _,Builtin.«reversed.__new__»]
 refine Qc (wpAny_of_eq (newClass_reversed _) ?_)
 try dsimp only
 refine Qc (wpAny_of_eq (a:=()) (by first|rfl|kernel_rfl) (Qc (wpAny_of_eq (a:=()) (by first|rfl|kernel_rfl) ?_)))
 try dsimp only
 refine Qc (wpAny_specialOf hT F.slot_range_reversed.lookup ?_)
 try dsimp only
 refine Qc (wpAny_of_eq (F.slot_range_reversed.bind _) ?_)
 try dsimp only
 have ne:¬((Value.builtin "range.__reversed__" == Value.none)=true):=fD
 first
 | rw [Qm ne]
 | (show wpAny _ _ (if (Value.builtin "range.__reversed__" == Value.none)=true then _ else _) _ _ _;rw [Qm ne])
 refine Qc (wpAny_rule (Qc (m:=runValue (.call (.builtin "range.__reversed__") ⟨[.ref r],[]⟩)) (show wpAny _ _ (call (.builtin "range.__reversed__") [.ref r]) _ _ _ from qNP hr h1 h2 ?_)))
 first
 | exact Qd h
 | exact Qc (Qd (Qd h))
theorem qNQ (hr:IsRange s.heap r 0 n 1 t u v) (h1:-(2^62)<=n) (h2:n<2^62)
  (h:Q (.ref s.heap.objs.size) { s with heap:=s.heap.push (jW n.toNat) }):wpAny (model prog w) A (call (.type "reversed") [.ref r]) Q E s:=by
 refine callType_other (U:="range_iterator") (Q₁:=λo s₁=>o=.ref s.heap.objs.size/\s₁={ s with heap:=s.heap.push (jW n.toNat) }) (by decide +kernel) F.create_reversed ⟨_,_,F.mro_reversed⟩ F.made_reversed qGN (F.typeCall_reversed_1 _) (qQd hr h1 h2 ⟨rfl,rfl⟩) ?_
 rintro o s₁ ⟨rfl,rfl⟩
 exact⟨⟨_,Qh _ rfl,rfl⟩,h⟩
end
theorem qEr:Qo (Qa "reversed")=some (.type "reversed"):=by decide +kernel
section
variable {X:Cx}{tg:Expr}
theorem qS7 {R:It->Hp->Prop}{E:Value->Shared->Prop}{n:Int}{t u v:Tok}{tk:Nat}(I:L2.Inv X pins Z H s) (h1:-(2^62)<=n) (h2:n<2^62)
  (q:R (iX ((n.toNat:Int) - 1) (-1) n.toNat) H):wpAny (model X.prog X.w) X.A (call (.type "reversed") [.ref s.heap.objs.size]) (λv s'=>wpAny (model X.prog X.w) X.A (pyIter v) (oN X pins Z tg R) E s') E
   { s with heap:=s.heap.push { cls:=.type "range",data:=.fields #[.int 0 t,.int n u,.int 1 v] },toks:=tk }:=by
 have J:Inv X pins Z H { s with heap:=s.heap.push { cls:=.type "range",data:=.fields #[.int 0 t,.int n u,.int 1 v] },toks:=tk }:=I.kept λb o e=>Qg _ e
 refine qNQ (IsRange.new ..) h1 h2 ?_
 have y:IsRangeIter ((s.heap.push { cls:=.type "range",data:=.fields #[.int 0 t,.int n u,.int 1 v] }).push (jW n.toNat)) (s.heap.push { cls:=.type "range",data:=.fields #[.int 0 t,.int n u,.int 1 v] }).objs.size ((n.toNat:Int) - 1) (n.toNat:Int) (-1):=Qh _ rfl
 refine wpAny_pyIter_rangeiter y ?_
 refine⟨(s.heap.push { cls:=.type "range",data:=.fields #[.int 0 t,.int n u,.int 1 v] }).objs.size,[(s.heap.push { cls:=.type "range",data:=.fields #[.int 0 t,.int n u,.int 1 v] }).objs.size],_,_,H,rfl,
  J.kept (t':=tk) λb o e=>Qg _ e,vy _ ((n.toNat:Int) - 1) (-1) n.toNat,?_,λb hb=>?_,q⟩
 ·show IsRangeIter _ _ (((n.toNat:Int) - 1)+((0:Nat):Int) * (-1)) (((n.toNat:Nat):Int) - ((0:Nat):Int)) (-1)
  rw [show ((n.toNat:Int) - 1)+((0:Nat):Int) * (-1)=(n.toNat:Int) - 1 by omega,show ((n.toNat:Nat):Int) - ((0:Nat):Int)=(n.toNat:Int) by omega]
  exact y
 ·have e:b=(s.heap.push { cls:=.type "range",data:=.fields #[.int 0 t,.int n u,.int 1 v] }).objs.size:=by simpa using hb
  subst e
  exact J.fpOk (aK _) (J.hok.fresh (aK _))
def qVq (ta:TA):TI:=fun Z H R=>ta Z H λvs H1=>∃i:Int,vs=[.int i]/\(-(2^62)<=i/\i<2^62)/\R (iX ((i.toNat:Int) - 1) (-1) i.toNat) H1
theorem qQt (hg:Gl X "range") (hm:X.mg "range"=none) (hg':Gl X "reversed") (hm':X.mg "reversed"=none) (ha:PA X [a] ta) (hs:starEach [a] X.env=[(false,eval a X.env)]) :
  PI X tg (.Call (.Name "reversed" p') [.Call (.Name "range" p) [a] [] pos] [] pos') (qVq ta):=by
 intro pins s Z H R I h
 refine Call_ (f9 I hg' hm' qEr (gP (rest:=[]) ?_ rfl rfl))
 show wpAny _ _ (spliced ((false,eval (.Call (.Name "range" p) [a] [] pos) X.env)::backTo pos' (starEach [] X.env))) _ _ s
 refine Calls.spliced_cons ?_
 refine Call_ (f9 I hg hm boot_range (gP (aF (ha pos pins s Z H _ I h) λus s1 ⟨vs,H1,I1,r1,q1⟩=>?_) hs rfl))
 obtain⟨j,e,⟨q1,q2⟩,q⟩:=q1
 subst e
 cases r1 with
 | cons r rr =>
  cases rr
  obtain⟨t,rfl⟩:=r
  exact call_range_1 (Calls.spliced_nil (qS7 I1 q1 q2 q))
end
end Dw
namespace Dw
open PySem PySem.Spec PyProof.Rows L2 HT
section
variable {prog:Program}{w:World}{A:Around}{E:Value->Shared->Prop}{s:Shared}
theorem qIQ (ht:IsTup s.heap t items) (h:Q true s):wpAny (model prog w) A (Builtin.Tuple.tupleIsExact (.ref t)) Q E s:=by
 unfold Builtin.Tuple.tupleIsExact
 exact Qc (wpAny_typeOf ht.typeIs (Qd h))
theorem qHq {vl vu:Value}{lo hi:Option Int}{Q:Value->Shared->Prop}(ht:IsTup s.heap t items) (hs:s.heap.IsSliceOf sl vl vu .none) (pl:IsPart vl lo) (pu:IsPart vu hi)
  (hw:sIx items.size 0 lo=0/\sIx items.size items.size hi=items.size) (h:Q (.ref t) s):wpAny (model prog w) A (getItem (.ref t) (.ref sl)) Q E s:=by
 obtain⟨os,hos,hcs,hds⟩:=id hs
 have hTs:s.TypeIs (.ref sl) "slice":=⟨os,hos,hcs⟩
 unfold getItem
 try with_reducible refine wpAny_holding ?_
 first|refine Qc (Qd ?_)|skip
 refine Qc (wpAny_sequenceKey ht.typeIs (by decide) ?_)
 refine Qc (wpAny_callSpecial?_slot (name:=Qa "__getitem__") ht.typeIs yat
  (wpAny_call_entry yat ht.typeIs entry_tuple_getitem ?_ (args_tuple_getitem _ _)))
 show wpAny _ _ (Builtin.Tuple.tupleItemsOf (.ref t) >>= _) _ _ s
 refine Qc (tupleItemsOf_ ht (Qc (wpAny_typeOf hTs ?_)))
 rw [Ql (by decide)]
 refine Qc (DG hs pl pu ?_)
 have yes:(((sIx items.size 0 lo:Nat):Int) == 0&&(1:Int) == 1&&(sIx items.size items.size hi - sIx items.size 0 lo) == items.size)=true:=by
  rw [hw.1,hw.2];simp
 show wpAny _ _ (if (((sIx items.size 0 lo:Nat):Int) == 0&&(1:Int) == 1&&(sIx items.size items.size hi - sIx items.size 0 lo) == items.size)=true then _ else _) _ _ s
 rw [Ql yes]
 refine Qc (qIQ ht ?_)
 rw [Ql rfl]
 refine Qc (wpAny_rule ?_)
 first
  | exact Qc (Qd (Qd ⟨_,rfl,Qd h⟩))
  | exact Qc (Qd ⟨_,rfl,Qd h⟩)
  | exact Qd ⟨_,rfl,Qd h⟩
end
section
variable {X:Cx}
def qVg (K:Qb):V->Option Int->Option Int->Hp->VK->Prop:=λx lo hi H Q=>∃a xs,x=.ref a/\SqT K H a xs/\(HT.sIx xs.length 0 lo=0/\HT.sIx xs.length xs.length hi=xs.length)/\Q (.ref a) H
theorem qP9:SlR X (qVg X.K):=by
 intro pins s Z H x v vl vu lo hi sl Q I rx hs pl pu h
 obtain⟨a,xs,rfl,hx,hw,q⟩:=h
 cases rx
 obtain⟨its,r,ht,hz⟩:=I.tuple hx
 have hlen:its.toArray.size=xs.length:=by rw [aZ];exact r.length.symm
 exact⟨"tuple",_,yat.lookup,ht.typeIs,qHq ht hs pl pu (by rw [hlen];exact hw) ⟨.ref a,H,I,rfl,q⟩⟩
theorem qO2 (ht:IsTup s.heap t #[]) (hb:IsTup s.heap b ws) (h:Q (.ref b) s):wpAny (model prog w) A (binaryOp .Add (.ref t) (.ref b)) Q E s:=by
 obtain⟨⟨cls,dd,data,sl⟩,ho,hc,n,hd⟩:=id ht
 obtain⟨⟨cls2,dd2,data2,gv⟩,ho2,hc2,n2,hd2⟩:=id hb
 simp only at hc hd hc2 hd2
 subst hc hd hc2 hd2
 exact concat_meets ⟨_,ho,rfl⟩ ⟨_,ho2,rfl⟩ noFill_tuple_add seq_tuple_add sH sI (sJ _ _) (tuple_addW0 t b #[] ws n n2 dd dd2 sl gv rfl) ⟨ho,ho2,h⟩
theorem op_catN:OpR X (binaryOp .Add) (λx y H Q=>∃a b ys,x=.ref a/\y=.ref b/\SqT X.K H a []/\SqT X.K H b ys/\Q (.ref b) H):=by
 intro pins s Z H x y v u Q I rx ry h
 obtain⟨a,b,ys,rfl,rfl,ha,hb,q⟩:=h
 cases rx
 cases ry
 obtain⟨its,r1,p1,_⟩:=I.tuple ha
 obtain⟨its2,r2,p2,_⟩:=I.tuple hb
 cases r1
 exact qO2 p1 p2 ⟨.ref b,H,I,rfl,q⟩
end
end Dw
namespace Dw
open PySem PySem.Spec PyProof.Rows L2
theorem qJ1 {K:Qb}{tg:Expr}(j:Addr) (lo st:Int) (n:Nat):Turn P w K tg (iX lo st n) [j] j (λi h=>IsLongIter h j (lo+(i:Nat) * st) ((n:Int) - (i:Nat)) st) where
 mem:=by simp
 obj:=λi h y b hb=>by
  have e:b=j:=by simpa using hb
  subst e
  exact⟨_,y,λv z=>by
   have z':Data.fields _=Data.cell v:=z
   cases z'⟩
 keep:=λi h h' y k=>k j (by simp) _ y
 item:=by
  intro X hP hw hK hc i pins s Z H E I hf y hg
  subst hP hw hK
  obtain⟨u0,u1,u2,u3,u4,u5⟩:=hf j (by simp)
  have W:=Walks.longrange (prog:=X.prog) (w:=X.w) (I.ok.hd hc) j lo st n
  refine W.item i s _ _ hg y λv h' tk hv y' kk=>?_
  obtain⟨t,rfl⟩:=hv
  have J:Inv X pins Z H { s with heap:=h',toks:=tk }:=I.turned (λb o hb e=>kk b o (by simpa using hb) e) u0 u1 u3 u4 u5
  exact⟨_,rfl,nB (s:={ s with heap:=h',toks:=tk }) (n:="longrange_iterator") y' rfl rfl (by decide) ⟨.int (lo+i * st),H,J,⟨t,rfl⟩,⟨rfl,rfl⟩,y',λb hb=>(hf b hb).1⟩⟩
 done:=by
  intro X hP hw hK hc i pins s Z H E I hf y hg
  subst hP hw hK
  obtain⟨u0,u1,u2,u3,u4,u5⟩:=hf j (by simp)
  exact wpAny_pyNext_long_end (I.ok.hd hc) y (by have:n<=i:=hg;omega) λh' eb=>⟨rfl,I.turned (t':=s.toks) (λb o hb e=>eb b o hb e) u0 u1 u3 u4 u5⟩
 self:=λ_ _ _ _ _ y h=>wpAny_pyIter_longiter y h
section
variable {X:Cx}{tg:Expr}
theorem qQ7 {R:It->Hp->Prop}{E:Value->Shared->Prop}{lo hi:Int}{t u v:Tok}{tk:Nat}(I:L2.Inv X pins Z H s)
  (q:R (iX lo 1 (hi - lo).toNat) H):wpAny (model X.prog X.w) X.A (pyIter (.ref s.heap.objs.size)) (oN X pins Z tg R) E { s with heap:=s.heap.push { cls:=.type "range",data:=.fields #[.int lo t,.int hi u,.int 1 v] },toks:=tk }:=by
 have J:Inv X pins Z H { s with heap:=s.heap.push { cls:=.type "range",data:=.fields #[.int lo t,.int hi u,.int 1 v] },toks:=tk }:=I.kept λb o e=>Qg _ e
 have e1:lo+((0:Nat):Int) * 1=lo:=by simp
 have e2:(((hi - lo).toNat:Nat):Int) - ((0:Nat):Int)=Builtin.Range.rangeSize lo hi 1:=by rw [rangeSize_one];split<;>omega
 have fp:∀b∈[(s.heap.push { cls:=.type "range",data:=.fields #[.int lo t,.int hi u,.int 1 v] }).objs.size],dZ X pins H b:=λb hb=>by
  have e:b=(s.heap.push { cls:=.type "range",data:=.fields #[.int lo t,.int hi u,.int 1 v] }).objs.size:=by simpa using hb
  subst e
  exact J.fpOk (aK _) (J.hok.fresh (aK _))
 cases hsm:Builtin.Range.small lo hi 1 with
 | true =>
  refine wpAny_pyIter_range (IsRange.new ..) hsm ⟨_,[(s.heap.push { cls:=.type "range",data:=.fields #[.int lo t,.int hi u,.int 1 v] }).objs.size],_,_,H,rfl,J.kept (t':=tk) λb o e=>Qg _ e,vy _ lo 1 (hi - lo).toNat,?_,fp,q⟩
  show IsRangeIter _ _ (lo+((0:Nat):Int) * 1) ((((hi - lo).toNat:Nat):Int) - ((0:Nat):Int)) 1
  rw [e1,e2]
  exact Qh _ rfl
 | false =>
  refine wpAny_pyIter_longrange (IsRange.new ..) hsm ⟨_,[(s.heap.push { cls:=.type "range",data:=.fields #[.int lo t,.int hi u,.int 1 v] }).objs.size],_,_,H,rfl,J.kept (t':=tk) λb o e=>Qg _ e,qJ1 _ lo 1 (hi - lo).toNat,?_,fp,q⟩
  show IsLongIter _ _ (lo+((0:Nat):Int) * 1) ((((hi - lo).toNat:Nat):Int) - ((0:Nat):Int)) 1
  rw [e1,e2]
  exact Qh _ rfl
def qTD (ta:TA):TI:=fun Z H R=>ta Z H λvs H1=>∃i j:Int,vs=[.int i,.int j]/\R (iX i 1 (j - i).toNat) H1
theorem qIf (hg:Gl X "range") (hm:X.mg "range"=none) (ha:PA X [a,b] ta) (hs:starEach [a,b] X.env=[(false,eval a X.env),(false,eval b X.env)]) (hs2:starEach [b] X.env=[(false,eval b X.env)]) :
  PI X tg (.Call (.Name "range" p) [a,b] [] pos) (qTD ta):=by
 intro pins s Z H R I h
 refine Call_ (f9 I hg hm boot_range (gP (aF (ha pos pins s Z H _ I h) λus s1 ⟨vs,H1,I1,r1,q1⟩=>?_) (by rw [hs,hs2]) (by rw [hs2];rfl)))
 obtain⟨i,j,e,q⟩:=q1
 subst e
 cases r1 with
 | cons r rr =>
  cases rr with
  | cons r' rr =>
   cases rr
   obtain⟨t,rfl⟩:=r
   obtain⟨t',rfl⟩:=r'
   exact call_range_2 (qQ7 I1 q)
theorem mf:∀{xs ys:List Int},xs.Perm ys->xs.Pairwise (·<=·)->ys.Pairwise (·<=·)->xs=ys
 | [],ys,h,_,_=>h.nil_eq
 | x::xs,[],h,_,_=>Qn h.length_eq (by simp)
 | x::xs,y::ys,h,h1,h2=>by
  have a1:x∈y::ys:=h.subset dz
  have a2:y∈x::xs:=h.symm.subset dz
  have b1:y<=x:=(yag.mp a1).elim (λe=>by omega) λm=>(yaU.mp h2).1 x m
  have b2:x<=y:=(yag.mp a2).elim (λe=>by omega) λm=>(yaU.mp h1).1 y m
  have e:x=y:=by omega
  subst e
  rw [mf (List.perm_cons _ |>.mp h) (yaU.mp h1).2 (yaU.mp h2).2]
end
end Dw
namespace Dw
open PySem PySem.Spec PyProof.Rows L2
abbrev Fz:=Addr->Prop
def qVF (K:Qb) (a:Addr) (xs:List V):Prop:=
 ∃(o:Obj) (its:Array Value) (n:Nat),K.lookup a=some o/\o.cls=.type "list"/\o.dict=none/\o.data=.seq its n/\its.size<=sizeLine/\Vals xs its.toList
def LsR (K:Qb) (H:Hp) (F:Fz) (a:Addr) (xs:List V):Prop:=(F a/\Rd H a (.lst xs))∨qVF K a xs
theorem LsR.sq {K:Qb}{H:Hp}{F:Fz}{a:Addr}{xs:List V}(h:LsR K H F a xs):SqL K H a xs:=h.elim (λh=>.inl h.2) .inr
noncomputable def dk (ks:List Int):List (dQ×V):=ks.map λk=>(Sum.inl k,V.bl true)
@[simp] noncomputable def jS:D->Bool
 | .dct _ _=>true
 | _=>false
def InsR (K:Qb) (H:Hp) (a:Addr) (kn:Kn) (vs:List V):Prop:=
 ∃(dx:Addr) (fs:List (Str×V)),H a=some (.ins kn.c dx fs)/\Cls K kn.c/\(∀(j:Nat) (f:Str),kn.ns[j]?=some f->NoAttr K kn.c f/\∃u,fs.lookup f=some u/\vs[j]?=some u)/\∀g,g∉kn.ns->fs.lookup g=none
mutual
def RD (K:Qb) (H:Hp) (F:Fz):D->V->Prop
 | .non,v=>v=.non
 | .bl b,v=>v=.bl b
 | .int i,v=>v=.int i
 | .str x,v=>v=.str x
 | .tup ds,v=>∃a vs,v=.ref a/\SqT K H a vs/\RDs K H F ds vs
 | .lst ds,v=>∃a vs,v=.ref a/\LsR K H F a vs/\RDs K H F ds vs
 | .dct _ _,_=>False
 | .obj kn ds,v=>∃a vs,v=.ref a/\InsR K H a kn vs/\RDs K H F ds vs
def RDs (K:Qb) (H:Hp) (F:Fz):List D->List V->Prop
 | [],vs=>vs=[]
 | d::ds,vs=>∃v r,vs=v::r/\RD K H F d v/\RDs K H F ds r
end
structure Keep (H:Hp) (F:Fz) (H':Hp) (F':Fz):Prop where
 tups:∀a xs,Rd H a (.tup xs)->Rd H' a (.tup xs)
 lsts:∀a xs,F a->Rd H a (.lst xs)->F' a/\Rd H' a (.lst xs)
 inss:∀a C dx fs,H a=some (.ins C dx fs)->H' a=some (.ins C dx fs)
theorem InsR.mono {K:Qb}{H H':Hp}{a:Addr}{kn:Kn}{vs:List V}(k:∀a C dx fs,H a=some (.ins C dx fs)->H' a=some (.ins C dx fs)):InsR K H a kn vs->InsR K H' a kn vs:=
 λ⟨dx,fs,h1,h2⟩=>⟨dx,fs,k _ _ _ _ h1,h2⟩
section
variable {K:Qb}{H H' H'':Hp}{F F' F'':Fz}
mutual
theorem RD.mono (k:Keep H F H' F'):∀{d:D}{v:V},RD K H F d v->RD K H' F' d v
 | .non,_,h=>h
 | .bl _,_,h=>h
 | .int _,_,h=>h
 | .str _,_,h=>h
 | .tup ds,v,h=>by
  simp only [RD] at h ⊢
  obtain⟨a,vs,e,hs,hr⟩:=h
  exact⟨a,vs,e,hs.elim (λz=>.inl (k.tups _ _ z)) .inr,RDs.mono k hr⟩
 | .lst ds,v,h=>by
  simp only [RD] at h ⊢
  obtain⟨a,vs,e,hs,hr⟩:=h
  exact⟨a,vs,e,hs.elim (λz=>.inl (k.lsts _ _ z.1 z.2)) .inr,RDs.mono k hr⟩
 | .dct _ _,_,h=>by simp only [RD] at h
 | .obj kn ds,v,h=>by
  simp only [RD] at h ⊢
  obtain⟨a,vs,e,hs,hr⟩:=h
  exact⟨a,vs,e,hs.mono k.inss,RDs.mono k hr⟩
theorem RDs.mono (k:Keep H F H' F'):∀{ds:List D}{vs:List V},RDs K H F ds vs->RDs K H' F' ds vs
 | [],_,h=>h
 | d::ds,vs,h=>by
  simp only [RDs] at h ⊢
  obtain⟨v,r,e,h1,h2⟩:=h
  exact⟨v,r,e,RD.mono k h1,RDs.mono k h2⟩
end
theorem RDs.length:∀{ds:List D}{vs:List V},RDs K H F ds vs->vs.length=ds.length
 | [],_,h=>by simp only [RDs] at h;subst h;rfl
 | d::ds,vs,h=>by
  simp only [RDs] at h
  obtain⟨v,r,rfl,_,h2⟩:=h
  simp [RDs.length h2]
theorem RDs.get:∀{ds:List D}{vs:List V}{i:Nat}{d:D},RDs K H F ds vs->ds[i]?=some d->∃v,vs[i]?=some v/\RD K H F d v
 | [],_,_,_,_,e=>by simp at e
 | x::ds,vs,i,d,h,e=>by
  simp only [RDs] at h
  obtain⟨v,r,rfl,h1,h2⟩:=h
  cases i with
  | zero=>simp at e;subst e;exact⟨v,rfl,h1⟩
  | succ i=>simp at e;obtain⟨w,e1,e2⟩:=RDs.get h2 e;exact⟨w,by simpa using e1,e2⟩
theorem RDs.append:∀{ds es:List D}{vs ws:List V},RDs K H F ds vs->RDs K H F es ws->RDs K H F (ds++es) (vs++ws)
 | [],_,_,_,h,h'=>by simp only [RDs] at h;subst h;exact h'
 | d::ds,es,vs,ws,h,h'=>by
  simp only [RDs] at h
  obtain⟨v,r,rfl,h1,h2⟩:=h
  exact⟨v,r++ws,rfl,h1,RDs.append h2 h'⟩
theorem RDs.take:∀{ds:List D}{vs:List V}(n:Nat),RDs K H F ds vs->RDs K H F (ds.take n) (vs.take n)
 | _,_,0,_=>by simp [RDs]
 | [],_,n+1,h=>by simp only [RDs] at h;subst h;simp [RDs]
 | d::ds,vs,n+1,h=>by
  simp only [RDs] at h
  obtain⟨v,r,rfl,h1,h2⟩:=h
  exact⟨v,r.take n,rfl,h1,RDs.take n h2⟩
theorem RDs.drop:∀{ds:List D}{vs:List V}(n:Nat),RDs K H F ds vs->RDs K H F (ds.drop n) (vs.drop n)
 | _,_,0,h=>by simpa using h
 | [],_,n+1,h=>by simp only [RDs] at h;subst h;simp [RDs]
 | d::ds,vs,n+1,h=>by
  simp only [RDs] at h
  obtain⟨v,r,rfl,h1,h2⟩:=h
  simpa using RDs.drop n h2
theorem RDs.rep (h:RDs K H F ds vs):∀n:Nat,RDs K H F (List.replicate n ds).flatten (List.replicate n vs).flatten
 | 0=>by simp [RDs]
 | n+1=>by simpa [kZ] using RDs.append h (RDs.rep h n)
theorem RDs.ints:∀{ds:List D}{vs:List V}{is:List Int},RDs K H F ds vs->f7 ds=some is->vs=is.map V.int
 | [],_,_,h,e=>by simp only [RDs] at h;subst h;simp at e;subst e;rfl
 | d::ds,vs,is,h,e=>by
  simp only [RDs] at h
  obtain⟨v,r,rfl,h1,h2⟩:=h
  cases d with
  | int i =>
   cases q:f7 ds with
   | none=>simp [q] at e
   | some js =>
    simp [q] at e
    subst e
    have h1':v=.int i:=h1
    rw [h1',RDs.ints h2 q];rfl
  | _=>simp at e
theorem RDs.bls:∀{ds:List D}{vs:List V}{is:List Bool},RDs K H F ds vs->g9 ds=some is->vs=is.map V.bl
 | [],_,_,h,e=>by simp only [RDs] at h;subst h;simp at e;subst e;rfl
 | d::ds,vs,is,h,e=>by
  simp only [RDs] at h
  obtain⟨v,r,rfl,h1,h2⟩:=h
  cases d with
  | bl i =>
   cases q:g9 ds with
   | none=>simp [q] at e
   | some js =>
    simp [q] at e
    subst e
    have h1':v=.bl i:=h1
    rw [h1',RDs.bls h2 q];rfl
  | _=>simp at e
theorem RDs.of_ints (is:List Int):RDs K H F (is.map .int) (is.map V.int):=by
 induction is with
 | nil=>simp [RDs]
 | cons i r ih=>exact⟨_,_,rfl,rfl,ih⟩
end
structure Gr (H:Hp) (F:Fz) (H':Hp) (F':Fz):Prop where
 same:Same H H'
 sub:∀a,F a->F' a
 new:∀a,F' a->F a∨H a=none
 dom:∀a,H' a=none->¬F' a
section
variable {K:Qb}{H H1 H2:Hp}{F F1 F2:Fz}
theorem uP (s:Same H H1) (h:Rd H a u):Rd H1 a u:=h.elim (λz=>.inl (s _ _ z)) λ⟨o,z⟩=>.inr ⟨o,s _ _ z⟩
theorem Gr.keep (g:Gr H F H1 F1):Keep H F H1 F1:=⟨λ_ _ h=>uP g.same h,λ_ _ f h=>⟨g.sub _ f,uP g.same h⟩,λ_ _ _ _ h=>g.same _ _ h⟩
theorem Gr.refl (d:∀a,H a=none->¬F a):Gr H F H F:=⟨Same.refl H,λ_ h=>h,λ_ h=>.inl h,d⟩
theorem Gr.trans (g:Gr H F H1 F1) (g':Gr H1 F1 H2 F2):Gr H F H2 F2:=
 ⟨g.same.trans g'.same,λa h=>g'.sub a (g.sub a h),λa h=>(g'.new a h).elim (λz=>g.new a z) λz=>.inr (g.same.free z),g'.dom⟩
theorem Gr.laid (d:∀a,H a=none->¬F a) (hp:H p=none):Gr H F (aA H p o) F:=
 ⟨λb u q=>by rw [aX (fx q hp)];exact q,λ_ h=>h,λ_ h=>.inl h,λa e=>by
  by_cases z:a=p
  ·subst z;exact d a hp
  ·rw [aX z] at e;exact d a e⟩
theorem Gr.fz (g:Gr H F H1 F1) (hp:H p=none) (h1:H1 p=some o):Gr H F H1 (λa=>a=p∨F1 a):=
 ⟨g.same,λa h=>.inr (g.sub a h),λa h=>h.elim (λz=>.inr (z▸hp)) (λz=>g.new a z),λa e h=>h.elim (λz=>by subst z;rw [h1] at e;cases e) (g.dom a e)⟩
def RR (K:Qb) (H H':Hp) (F':Fz):R->V->Prop
 | (false,d),v=>RD K H' F' d v
 | (true,d),v=>∃a ds vs,d=.lst ds/\v=.ref a/\H a=none/\¬F' a/\H' a=some (.lst vs)/\RDs K H' F' ds vs
def RP (K:Qb) (H:Hp) (F:Fz) (d:D) (v:V):Prop:=
 RD K H F d v∨∃a ds vs,d=.lst ds/\v=.ref a/\H a=some (.lst vs)/\RDs K H F ds vs
theorem RR.back (h:RR K H H1 F1 r v) (s:Same H0 H):RR K H0 H1 F1 r v:=by
 obtain⟨b,d⟩:=r
 cases b with
 | false=>exact h
 | true =>
  obtain⟨a,ds,vs,e1,e2,e3,e⟩:=h
  exact⟨a,ds,vs,e1,e2,s.free e3,e⟩
theorem RR.look (h:RR K H H1 F1 r v):RP K H1 F1 r.2 v:=by
 obtain⟨b,d⟩:=r
 cases b with
 | false=>exact .inl h
 | true =>
  obtain⟨a,ds,vs,e1,e2,e3,e4,e5,e6⟩:=h
  exact .inr ⟨a,ds,vs,e1,e2,e5,e6⟩
theorem RR.fz (h:RR K H H1 F1 r v) (g:Gr H F H1 F1):∃F2,Gr H F H1 F2/\RD K H1 F2 r.2 v:=by
 obtain⟨b,d⟩:=r
 cases b with
 | false=>exact⟨F1,g,h⟩
 | true =>
  obtain⟨a,ds,vs,rfl,rfl,e3,e4,e5,e6⟩:=h
  have g2:Keep H1 F1 H1 (λb=>b=a∨F1 b):=⟨λ_ _ h=>h,λ_ _ f h=>⟨.inr f,h⟩,λ_ _ _ _ h=>h⟩
  exact⟨λb=>b=a∨F1 b,g.fz e3 e5,⟨a,vs,rfl,.inl ⟨.inl rfl,.inl e5⟩,RDs.mono g2 e6⟩⟩
theorem RP.grow (h:RP K H F d v) (g:Gr H F H1 F1):RP K H1 F1 d v:=
 h.elim (λz=>.inl (RD.mono g.keep z)) λ⟨a,ds,vs,e1,e2,e3,e4⟩=>.inr ⟨a,ds,vs,e1,e2,g.same _ _ e3,RDs.mono g.keep e4⟩
theorem RP.int (h:RP K H F (.int i) v):v=.int i:=h.elim (λz=>z) λ⟨_,_,_,e,_⟩=>by cases e
theorem RP.bl (h:RP K H F (.bl i) v):v=.bl i:=h.elim (λz=>z) λ⟨_,_,_,e,_⟩=>by cases e
theorem RP.non (h:RP K H F .non v):v=.non:=h.elim (λz=>z) λ⟨_,_,_,e,_⟩=>by cases e
theorem RP.str (h:RP K H F (.str x) v):v=.str x:=h.elim (λz=>z) λ⟨_,_,_,e,_⟩=>by cases e
theorem RP.tup (h:RP K H F (.tup ds) v):∃a vs,v=.ref a/\SqT K H a vs/\RDs K H F ds vs:=h.elim (λz=>z) λ⟨_,_,_,e,_⟩=>by cases e
theorem RP.noDct:¬RP K H F (.dct m ks) v:=λh=>h.elim (λz=>by simp only [RD] at z) λ⟨_,_,_,e,_⟩=>by cases e
theorem RP.obj (h:RP K H F (.obj kn ds) v):∃a vs,v=.ref a/\InsR K H a kn vs/\RDs K H F ds vs:=h.elim (λz=>by simpa only [RD] using z) λ⟨_,_,_,e,_⟩=>by cases e
theorem RP.lst (h:RP K H F (.lst ds) v):∃a vs,v=.ref a/\SqL K H a vs/\RDs K H F ds vs:=by
 rcases h with ⟨a,vs,e,h1,h2⟩|⟨a,ds',vs,e1,e2,e3,e4⟩
 ·exact⟨a,vs,e,h1.sq,h2⟩
 ·cases e1;exact⟨a,vs,e2,SqL.of e3,e4⟩
end
structure Gp where
 h:Hp
 pin:Option Addr
instance:Coe Gp Hp:=⟨Gp.h⟩
instance:CoeFun Gp λ_=>Addr->Option HO:=⟨Gp.h⟩
structure SR (K:Qb) (G:Gp) (H:Hp) (F:Fz) (Z:En) (τ:L2.St):Prop where
 len:Z.length=τ.length
 ent:Same G.h H
 dom:∀a,H a=none->¬F a
 val:∀i d,ax Z i=some (false,d)->∃v,τ[i]?=some (some v)/\RD K H F d v
 own:∀i d,ax Z i=some (true,d)->jS d=false->∃a ds vs,d=.lst ds/\τ[i]?=some (some (.ref a))/\G a=none/\¬F a/\H a=some (.lst vs)/\RDs K H F ds vs
 sep:∀i j d e,ax Z i=some (true,d)->ax Z j=some (true,e)->τ[i]?=τ[j]?->i=j
 dct:∀i m ks,ax Z i=some (true,.dct m ks)->∃a,τ[i]?=some (some (.ref a))/\¬F a/\H a=some (.dK (dk ks))/\(m=true->G a=none)
 pin:∀p d,G.pin=some p->ax Z 0=some (true,d)->τ[0]?=some (some (.ref p))
theorem SR.grow {K:Qb}{G:Gp}{H H1:Hp}{F F1:Fz}{Z:En}{τ:L2.St}(s:SR K G H F Z τ) (g:Gr H F H1 F1):SR K G H1 F1 Z τ:=
 ⟨s.len,s.ent.trans g.same,g.dom,λi d e=>let ⟨v,h1,h2⟩:=s.val i d e;⟨v,h1,RD.mono g.keep h2⟩,
  λi d e hd=>let ⟨a,ds,vs,h1,h2,h3,h4,h5,h6⟩:=s.own i d e hd
   ⟨a,ds,vs,h1,h2,h3,(λz=>(g.new a z).elim h4 λz=>Qn (h5.symm.trans z) (by simp)),g.same _ _ h5,RDs.mono g.keep h6⟩,s.sep,
  λi m ks e=>let ⟨a,h1,h2,h3,h4⟩:=s.dct i m ks e
   ⟨a,h1,(λz=>(g.new a z).elim h2 λz=>Qn (h3.symm.trans z) (by simp)),g.same _ _ h3,h4⟩,s.pin⟩
theorem SR.addr {K:Qb}{G:Gp}{H:Hp}{F:Fz}{Z:En}{τ:L2.St}{i:Nat}{d:D}(s:SR K G H F Z τ) (h:ax Z i=some (true,d)):∃a u,τ[i]?=some (some (.ref a))/\¬F a/\H a=some u:=by
 cases hd:jS d with
 | false=>obtain⟨a,ds,vs,h1,h2,h3,h4,h5,h6⟩:=s.own i d h hd;exact⟨a,_,h2,h4,h5⟩
 | true =>
  cases d with
  | dct m ks=>obtain⟨a,h1,h2,h3,h4⟩:=s.dct i m ks h;exact⟨a,_,h1,h2,h3⟩
  | _=>cases hd
end Dw
namespace Dw
open PySem PySem.Spec PyProof.Rows L2
theorem kf (h:a.natAbs<2^n):Builtin.Int.intBits a<=n:=by
 unfold Builtin.Int.intBits
 split
 ·exact fq _
 ·rename_i hz
  have h0:a.natAbs≠0:=λz=>by
   have:a=0:=ybF.mp z
   subst this;simp at hz
  have:=(pC h0).mpr h
  omega
theorem qK3 (ha:Builtin.Int.intBits a<=1048640) (hb:Builtin.Int.intBits b<=1048640):IntMulOk a b:=by
 have h:Builtin.Int.intTooBig (Builtin.Int.intBits a+Builtin.Int.intBits b)=false:=by
  unfold Builtin.Int.intTooBig bitsLine
  exact Qj (by omega)
 unfold IntMulOk
 rw [h,kX]
 exact fD
theorem qQ1 (h:dH a b=true):IntMulOk a b:=by
 have h':=Qp h
 rcases h' with ⟨h1,h2⟩|h1|h1|⟨h1,h2⟩
 ·exact IntMulOk.of_bits (dR (kf h1) (by decide)) (dR (kf h2) (by decide))
 ·exact IntMulOk.of_left (kf h1)
 ·exact IntMulOk.of_right (kf h1)
 ·exact qK3 (kf h1) (kf h2)
section
variable {X:Cx}
theorem op_mulD:OpR X (binaryOp .Mult) (rI (λi j=>dH i j=true) λi j=>.int (i * j)):=iT λ_ _ _ _ _ _ _ hc q=>mul_int q (qQ1 hc)
theorem qKV:OpR X (binaryOp .FloorDiv) (rI (λ_ j=>fK j=true) λi j=>.int (i.fdiv j)):=iT λi j _ _ _ _ _ hc q=>by
 have h:=Qp hc
 refine floordiv_int h.1 q (.inl (PyProof.noPylong_of_log2 ?_))
 rcases h.2 with h2|h2
 ·have:=(pC (λz=>h.1 (ybF.mp z))).mpr h2
  omega
 ·have:=(pC (λz=>h.1 (ybF.mp z))).mpr h2
  omega
theorem qOl:OpR X (binaryOp .Mod) (rI (λ_ j=>fK j=true) λi j=>.int (i.fmod j)):=iT λ_ _ _ _ _ _ _ hc q=>mod_int' (Qp hc).1 q
theorem qOk:OpR X (binaryOp .Pow) (rI (λi j=>fL i j=true) λi j=>.int (i^j.toNat)):=iT λi j _ _ _ _ _ hc q=>by
 obtain⟨h1,h2,h3⟩:=Qp hc
 refine pow_int h2 ?_ q
 have:=kf h1
 calc (Builtin.Int.intBits i:Int) * j<=240 * 200:=pE (by exact_mod_cast this) h3 h2 (by decide)
  _<=2^27:=by decide
theorem qK9 (l:Addr) (items:Array Value) (n:Nat) (sl:Array (Option Value)) (b:Addr) (items2:Array Value) (n2:Nat) (gv:Array (Option Value)) (hc0:items.size+items2.size<=sizeLine) :
  Meets (Builtin.«list.__add__» ⟨[.ref l,.ref b],[]⟩) (λ_ R s=>s.heap.get? l=some ⟨.type "list",none,.seq items n,sl⟩/\s.heap.get? b=some ⟨.type "list",none,.seq items2 n2,gv⟩ /\
   R (.ok (.ret (Value.ref s.heap.objs.size))) { s with heap:=s.heap.push { cls:=.type "list",data:=.seq (items++items2) } }):=
 .of_wp λprog w A R s h=>by
  obtain⟨hp,g,d,tk,os⟩:=s
  obtain⟨hl,hb,h⟩:=h
  have f3:=F.sub_list_list
  wp_walk using AutoSeq1.wpAny_loadPart' hl,AutoSeq1.wpAny_loadPart' hb
  exact⟨_,rfl,h⟩
theorem qK8 (l:Addr) (items:Array Value) (n:Nat) (sl:Array (Option Value)) (x:Int) (u:Tok) (hc0:¬(!Builtin.List.listFitsIndex x)=true) (hc1:¬items.size * x.toNat > (2^63 - 1) / 8) (hc2:¬Builtin.List.listTooLong (items.size * x.toNat)=true) :
  Meets (Builtin.«list.__mul__» ⟨[.ref l,.int x u],[]⟩) (λ_ R s=>s.heap.get? l=some ⟨.type "list",none,.seq items n,sl⟩ /\
   R (.ok (.ret (Value.ref s.heap.objs.size))) { s with heap:=s.heap.push { cls:=Value.type "list",data:=Data.seq (List.foldl (λx1 x2=>x1++x2) #[] (List.replicate (if items.isEmpty=true then 0 else x.toNat) items)) } }):=
 .of_wp λprog w A R s h=>by
  obtain⟨hp,g,d,tk,os⟩:=s
  obtain⟨hl,h⟩:=h
  have hsz:=AutoListH.joined_fits hc2
  wp_walk
  refine wpAny_ite_false (Qj (Nat.not_lt.mpr hsz)) ?_
  wp_walk
  exact⟨_,rfl,h⟩
theorem qS6 (a:Int) (t:Tok) (l:Addr) (items:Array Value) (n:Nat) (sl:Array (Option Value)) :
  Meets (Builtin.«int.__rmul__» ⟨[.int a t,.ref l],[]⟩) (λ_ R s=>s.heap.get? l=some ⟨.type "list",none,.seq items n,sl⟩/\R (.ok (.ret Value.notImplemented)) s):=
 .of_wp λprog w A R s h=>by
  obtain⟨hp,g,d,tk,os⟩:=s
  obtain⟨hl,h⟩:=h
  wp_walk
  exact⟨_,rfl,h⟩
theorem Inv.lobj (I:Inv X pins Z H s) (h:SqL X.K H a xs) :
  ∃(its:List Value) (n:Nat) (sl:Array (Option Value)),Vals xs its/\xs.length=its.length/\s.heap.get? a=some ⟨.type "list",none,.seq its.toArray n,sl⟩/\xs.length<=sizeLine:=by
 obtain⟨its,r,⟨⟨c,dd,da,sl⟩,n,e,e1,e2,e3⟩,z⟩:=I.list h
 simp only at e1 e2 e3
 subst e1 e2 e3
 exact⟨its,n,sl,r,r.length,e,z⟩
def qTa (K:Qb):R2:=λx y H Q=>∃l b xs zs,x=.ref l/\y=.ref b/\SqL K H l xs/\SqL K H b zs/\xs.length+zs.length<=sizeLine/\∀p,H p=none->Q (.ref p) (aA H p (.lst (xs++zs)))
theorem op_catD:OpR X (binaryOp .Add) (qTa X.K):=by
 intro pins s Z H x y v u Q I rx ry h
 obtain⟨l,b,xs,zs,rfl,rfl,hH,hB,hz,q⟩:=h
 cases rx
 cases ry
 obtain⟨its,n,sl,r,hl,e,z⟩:=Inv.lobj I hH
 obtain⟨its2,n2,gv,r2,hl2,e2,z2⟩:=Inv.lobj I hB
 refine concat_meets ⟨_,e,rfl⟩ ⟨_,e2,rfl⟩ noFill_list_add seq_list_add F.slot_list_add F.entry_list_add (F.args_list_add_2 _ _)
  (qK9 l its.toArray n sl b its2.toArray n2 gv (by rw [aZ,aZ];omega)) ⟨e,e2,?_⟩
 have ea:its.toArray++its2.toArray=(its++its2).toArray:=by simp
 rw [ea]
 exact⟨.ref _,_,I.lnew (t':=s.toks) (r.append r2) (by rw [i8];omega),rfl,q _ I.fresh⟩
def qS8 (K:Qb):R2:=λx y H Q=>∃l k xs,x=.ref l/\y=.int k/\SqL K H l xs/\-(2^63)<=k/\k<2^63/\xs.length * k.toNat<=sizeLine /\
 ∀p,H p=none->Q (.ref p) (aA H p (.lst (List.replicate k.toNat xs).flatten))
theorem qOj:OpR X (binaryOp .Mult) (qS8 X.K):=by
 intro pins s Z H x y v u Q I rx ry h
 obtain⟨l,k,xs,rfl,rfl,hH,h1,h2,hz,q⟩:=h
 cases rx
 obtain⟨t,rfl⟩:=ry
 obtain⟨its,n,sl,r,hl,e,z⟩:=Inv.lobj I hH
 have hlen:its.toArray.size * k.toNat<=sizeLine:=by rw [aZ,<-hl];exact hz
 have hcap:¬its.toArray.size * k.toNat > (2^63 - 1) / 8:=by
  have:(sizeLine:Nat)<=(2^63 - 1) / 8:=by decide
  omega
 have hfit:¬(!Builtin.List.listFitsIndex k)=true:=by rw [fitsIndex_both h1 h2];exact fD
 have hlong:¬Builtin.List.listTooLong (its.toArray.size * k.toNat)=true:=by rw [vC hlen];exact fD
 have hnew:List.foldl (λx1 x2=>x1++x2) #[] (List.replicate (if its.toArray.isEmpty=true then 0 else k.toNat) its.toArray)=(List.replicate k.toNat its).flatten.toArray:=by
  have f0:∀m:Nat,List.foldl (λx1 x2=>x1++x2) #[] (List.replicate m its.toArray)=(List.replicate m its).flatten.toArray:=λm=>by simpa using CV its m []
  rw [f0]
  cases its with
  | nil=>simp
  | cons a r'=>rw [Qm (by simp)]
 refine wpAny_binaryOp_repeat_ref (T:="list") (U:="int") (by decide) ⟨_,e,rfl⟩ (λs'=>typeIs_int s' k t) noFill_list_mul F.fills_int_mul F.slot_int_rmul repeat_list F.slot_int_index.lookup
  (call_meets F.slot_int_rmul (typeIs_int s k t) F.entry_int_rmul (F.args_int_rmul_2 _ _) (qS6 k t l its.toArray n sl)
   ⟨e,rfl,⟨_,e,rfl⟩,call_meets F.slot_list_mul ⟨_,e,rfl⟩ F.entry_list_mul (F.args_list_mul_2 _ _) (qK8 l its.toArray n sl k t hfit hcap hlong) ⟨e,?_⟩⟩)
 rw [hnew]
 exact⟨.ref _,_,I.lnew (t':=s.toks) (r.rep k.toNat) (by rw [qOB,Nat.mul_comm];exact hz),rfl,q _ I.fresh⟩
theorem qJo (hc:X.calm=true):CallR X (.builtin "max") (λxs H Q=>∃i j k,xs=[.int i,.int j,.int k]/\Q (.int (if k > (if j > i then j else i) then k else (if j > i then j else i))) H):=by
 intro pins s Z H xs us Q I r h
 obtain⟨i,j,k,rfl,q⟩:=h
 obtain _|⟨⟨t,rfl⟩,_|⟨⟨t',rfl⟩,_|⟨⟨t2,rfl⟩,_|_⟩⟩⟩:=r
 refine max_three_ints (I.ok.hd hc) λh' tk hk=>?_
 have I1:Inv X pins Z H { s with heap:=h',toks:=tk }:=I.kept hk
 have fin:∀(z:Int) (tok:Tok),z=(if k > (if j > i then j else i) then k else (if j > i then j else i))->EP X pins Z Q (.int z tok) { s with heap:=h',toks:=tk }:=λz tok e=>⟨.int z,H,I1,⟨_,rfl⟩,by rw [e];exact q⟩
 by_cases hba:j > i<;>by_cases hc1:k > j<;>by_cases hc2:k > i<;>simp only [hba,hc1,hc2,if_true,if_false] at fin ⊢<;>first|exact fin _ _ rfl|exact fin _ _ (by omega)
end
end Dw
namespace Dw
open PySem PySem.Spec PyProof.Rows L2
section
variable {X:Cx}
theorem rO:∀{is:List Int}{its:List Value},Vals (is.map V.int) its->∃xs:List (Int×Tok),its=xs.map (λp=>Value.int p.1 p.2)/\xs.map (·.1)=is
 | [],_,.nil=>⟨[],rfl,rfl⟩
 | i::is,_,.cons ⟨t,e⟩ r=>by
  obtain⟨xs,h1,h2⟩:=rO r
  exact⟨(i,t)::xs,by rw [e,h1];rfl,by rw [gQ,h2]⟩
theorem qFx (xs:Array (Int×Tok)):preSum (numAt xs) xs.size=(xs.toList.map (·.1)).sum:=by
 rw [preSum_eq,List.take_of_length_le (by simp)]
theorem qJk (hc:X.calm=true):CallR X (.builtin "sum") (λxs H Q=>∃(p:Addr) (is:List Int),xs=[.ref p]/\SqL X.K H p (is.map V.int)/\Q (.int is.sum) H):=by
 intro pins s Z H xs us Q I r h
 obtain⟨p,is,rfl,hq,q⟩:=h
 obtain⟨u,rfl,ru⟩:=eY r
 cases ru
 obtain⟨its,rv,pl,z⟩:=I.list hq
 obtain⟨ps,rfl,rfl⟩:=rO rv
 have e:(ps.map λp=>Value.int p.1 p.2).toArray=intItems ps.toArray:=by simp [intItems]
 have hl:s.heap.IsList p (intItems ps.toArray):=by rw [<-e];exact pl.isList
 refine sum_intListG (I.ok.hd hc) hl λh' tk t' hk=>?_
 rw [qFx]
 exact⟨.int _,H,I.kept hk,⟨_,rfl⟩,q⟩
theorem qK4 (h:rS is=some m):m∈is/\∀a∈is,m<=a:=by
 cases is with
 | nil=>cases h
 | cons a r =>
  cases h
  have:∀(l:List Int) (b:Int),(l.foldl (λm x=>if x<m then x else m) b=b∨l.foldl (λm x=>if x<m then x else m) b∈l)/\l.foldl (λm x=>if x<m then x else m) b<=b/\∀y∈l,l.foldl (λm x=>if x<m then x else m) b<=y:=by
   intro l
   induction l with
   | nil=>intro b;exact⟨.inl rfl,Int.le_refl _,λ_ h=>nomatch h⟩
   | cons x l ih =>
    intro b
    rw [sU]
    obtain⟨h1,h2,h3⟩:=ih (if x<b then x else b)
    generalize l.foldl (λm x=>if x<m then x else m) (if x<b then x else b)=z at h1 h2 h3
    refine⟨?_,?_,λy hy=>?_⟩
    ·rcases h1 with h1|h1
     ·split at h1
      ·exact .inr (h1▸dz)
      ·exact .inl h1
     ·exact .inr (dM _ h1)
    ·split at h2<;>omega
    ·rcases yag.mp hy with rfl|hy
     ·split at h2<;>omega
     ·exact h3 y hy
  obtain⟨h1,h2,h3⟩:=this r a
  exact⟨yag.mpr h1,λy hy=>(yag.mp hy).elim (λe=>e▸h2) (h3 y)⟩
theorem qK1 (h:rR is=some m):m∈is/\∀a∈is,a<=m:=by
 cases is with
 | nil=>cases h
 | cons a r =>
  cases h
  have:∀(l:List Int) (b:Int),(l.foldl (λm x=>if m<x then x else m) b=b∨l.foldl (λm x=>if m<x then x else m) b∈l)/\b<=l.foldl (λm x=>if m<x then x else m) b/\∀y∈l,y<=l.foldl (λm x=>if m<x then x else m) b:=by
   intro l
   induction l with
   | nil=>intro b;exact⟨.inl rfl,Int.le_refl _,λ_ h=>nomatch h⟩
   | cons x l ih =>
    intro b
    rw [sU]
    obtain⟨h1,h2,h3⟩:=ih (if b<x then x else b)
    generalize l.foldl (λm x=>if m<x then x else m) (if b<x then x else b)=z at h1 h2 h3
    refine⟨?_,?_,λy hy=>?_⟩
    ·rcases h1 with h1|h1
     ·split at h1
      ·exact .inr (h1▸dz)
      ·exact .inl h1
     ·exact .inr (dM _ h1)
    ·split at h2<;>omega
    ·rcases yag.mp hy with rfl|hy
     ·split at h2<;>omega
     ·exact h3 y hy
  obtain⟨h1,h2,h3⟩:=this r a
  exact⟨yag.mpr h1,λy hy=>(yag.mp hy).elim (λe=>e▸h2) (h3 y)⟩
theorem qJn (hc:X.calm=true):CallR X (.builtin "min") (λxs H Q=>∃(p:Addr) (is:List Int) (m:Int),xs=[.ref p]/\SqL X.K H p (is.map V.int)/\rS is=some m/\Q (.int m) H):=by
 intro pins s Z H xs us Q I r h
 obtain⟨p,is,m,rfl,hq,hm,q⟩:=h
 obtain⟨u,rfl,ru⟩:=eY r
 cases ru
 obtain⟨its,rv,pl,z⟩:=I.list hq
 obtain⟨ps,rfl,rfl⟩:=rO rv
 have e:(ps.map λp=>Value.int p.1 p.2).toArray=intItems ps.toArray:=by simp [intItems]
 have hl:s.heap.IsList p (intItems ps.toArray):=by rw [<-e];exact pl.isList
 obtain⟨m1,m2⟩:=qK4 hm
 have hsz:0<ps.toArray.size:=by
  cases ps with
  | nil=>cases hm
  | cons _ _=>simp
 refine min_intList (I.ok.hd hc) hl hsz λv h' tk hv hk=>?_
 obtain⟨t,rfl⟩:=intItems_at hv
 obtain⟨h1,h2⟩:=argBest_lt (numAt ps.toArray) (ps.toArray.size - 1)
 have key:numAt ps.toArray (argBest (λi j=>decide (numAt ps.toArray i<numAt ps.toArray j)) (ps.toArray.size - 1))=m:=by
  refine Int.le_antisymm ?_ (m2 _ ?_)
  ·obtain⟨j,hj,e⟩:=List.getElem_of_mem m1
   have:=h2 j (by simp at hj ⊢;omega)
   refine kW this (Int.le_of_eq ?_)
   rw [<-e]
   simp [numAt] at hj ⊢
   rw [cV hj];rfl
  ·generalize argBest (λi j=>decide (numAt ps.toArray i<numAt ps.toArray j)) (ps.toArray.size - 1)=k at h1 ⊢
   have hk:k<ps.length:=by simp at h1 hsz;omega
   refine yaO.mpr ⟨ps[k],gR hk,?_⟩
   simp [numAt]
   rw [cV hk];rfl
 rw [key]
 exact⟨.int _,H,I.kept hk,⟨_,rfl⟩,q⟩
theorem qJq (hc:X.calm=true):CallR X (.builtin "max") (λxs H Q=>∃(p:Addr) (is:List Int) (m:Int),xs=[.ref p]/\SqL X.K H p (is.map V.int)/\rR is=some m/\Q (.int m) H):=by
 intro pins s Z H xs us Q I r h
 obtain⟨p,is,m,rfl,hq,hm,q⟩:=h
 obtain⟨u,rfl,ru⟩:=eY r
 cases ru
 obtain⟨its,rv,pl,z⟩:=I.list hq
 obtain⟨ps,rfl,rfl⟩:=rO rv
 have e:(ps.map λp=>Value.int p.1 p.2).toArray=intItems ps.toArray:=by simp [intItems]
 have hl:s.heap.IsList p (intItems ps.toArray):=by rw [<-e];exact pl.isList
 obtain⟨m1,m2⟩:=qK1 hm
 have hsz:0<ps.toArray.size:=by
  cases ps with
  | nil=>cases hm
  | cons _ _=>simp
 refine max_intList (I.ok.hd hc) hl hsz λv h' tk hv hk=>?_
 obtain⟨t,rfl⟩:=intItems_at hv
 obtain⟨h1,h2⟩:=argBest_gt (numAt ps.toArray) (ps.toArray.size - 1)
 have key:numAt ps.toArray (argBest (λi j=>decide (numAt ps.toArray i > numAt ps.toArray j)) (ps.toArray.size - 1))=m:=by
  refine Int.le_antisymm (m2 _ ?_) ?_
  ·generalize argBest (λi j=>decide (numAt ps.toArray i > numAt ps.toArray j)) (ps.toArray.size - 1)=k at h1 ⊢
   have hk:k<ps.length:=by simp at h1 hsz;omega
   refine yaO.mpr ⟨ps[k],gR hk,?_⟩
   simp [numAt]
   rw [cV hk];rfl
  ·obtain⟨j,hj,e⟩:=List.getElem_of_mem m1
   have:=h2 j (by simp at hj ⊢;omega)
   refine kW (Int.le_of_eq ?_) this
   rw [<-e]
   simp [numAt] at hj ⊢
   rw [cV hj];rfl
 rw [key]
 exact⟨.int _,H,I.kept hk,⟨_,rfl⟩,q⟩
theorem qJu (hc:X.calm=true):CallR X (.builtin "all") (λxs H Q=>∃(p:Addr) (bs:List Bool),xs=[.ref p]/\SqL X.K H p (bs.map V.bl)/\Q (.bl (bs.all id)) H):=by
 intro pins s Z H xs us Q I r h
 obtain⟨p,bs,rfl,hq,q⟩:=h
 obtain⟨u,rfl,ru⟩:=eY r
 cases ru
 obtain⟨its,rv,pl,z⟩:=I.list hq
 have hlen:bs.length=its.length:=by simpa using rv.length
 have hlt:p<s.heap.objs.size:=by obtain⟨_,e,_⟩:=pl.isList;exact Qi e
 refine call_all_walk (wpAny_pyIter_list pl.isList ?_)
 refine⟨s.heap.objs.size,_,_,_,_,_,λi=>(bs[i]?).getD false,rfl,Walks.list (A:=X.A.in1) (I.ok.hd hc) _ p (cD hlt) its.toArray,⟨⟨_,Qh _ rfl,rfl,rfl⟩,pl.isList.push _⟩,?_,λh' tk hk=>?_⟩
 ·intro i v s' Q' E' hv hQ
  have hi:its[i]?=some v:=by simpa using hv
  have hib:i<bs.length:=by
   have:=(yal.mp hi).1
   omega
  obtain⟨u,e1,e2⟩:=rv.get (i:=i) (x:=.bl bs[i]) (by simp [hib])
  rw [hi] at e1
  cases e1
  cases e2
  have:(bs[i]?).getD false=bs[i]:=by simp [hib]
  have hQ':Q' ((bs[i]?).getD false) s':=hQ
  rw [this] at hQ'
  exact wpAny_truthy_bool hQ'
 ·have e:(List.range its.toArray.size).all (λi=>(bs[i]?).getD false)=bs.all id:=by
   rw [aZ,<-hlen,sT,yaM,yaM]
   constructor
   ·intro h b hb
    obtain⟨i,hi,rfl⟩:=yaV.mp hb
    simpa [hi] using h i (by simpa using hi)
   ·intro h i hi
    have hi':i<bs.length:=by simpa using hi
    simpa [hi'] using h bs[i] (gR hi')
  rw [e]
  refine⟨.bl _,H,?_,rfl,q⟩
  refine I.kept (t':=tk) λb o eb=>hk b o (λhb=>?_) (Qg _ eb)
  have:b=s.heap.objs.size:=by simpa using hb
  subst this
  exact Qn (Qi eb) (fX _)
theorem qHJ (is:List Int):(fF is).Perm is/\(fF is).Pairwise (·<=·):=by
 refine⟨List.mergeSort_perm is _,?_⟩
 have h:=List.pairwise_mergeSort (le:=λa b:Int=>decide (a<=b)) (λa b c h1 h2=>by simp at *;omega) (λa b=>by simp;omega) is
 exact h.imp λh=>by simpa using h
theorem qFb:CallR X (.builtin "sorted") (λxs H Q=>∃(p:Addr) (is:List Int),xs=[.ref p]/\(SqL X.K H p (is.map V.int)∨SqT X.K H p (is.map V.int))/\is.length<64/\∀l,H l=none->Q (.ref l) (aA H l (.lst ((fF is).map V.int)))):=by
 intro pins s Z H xs us Q I r h
 obtain⟨p,is,rfl,hq,hl,q⟩:=h
 obtain⟨u,rfl,ru⟩:=eY r
 cases ru
 have fR:(64:Nat)<=sizeLine:=by decide
 have ob:∃(its:List Value) (T:String) (o:Obj) (n:Nat),(T="list"∨T="tuple")/\Vals (is.map V.int) its/\s.heap.get? p=some o/\o.cls=.type T/\o.data=.seq its.toArray n:=by
  rcases hq with hq|hq
  ·obtain⟨its,n,sl,rv,_,e,_⟩:=Inv.lobj I hq
   exact⟨its,_,_,n,.inl rfl,rv,e,rfl,rfl⟩
  ·obtain⟨its,rv,⟨o,e1,e2,n,e3⟩,_⟩:=I.tuple hq
   exact⟨its,_,o,n,.inr rfl,rv,e1,e2,e3⟩
 obtain⟨its,T,o,n,hT,rv,e1,e2,e3⟩:=ob
 have hI:IntsAre its is:=qG0 rv
 have hlen:its.length=is.length:=by simpa using rv.length.symm
 refine PySem.Calls.call_function_entry kind_sorted plain_sorted entry_sorted (args_sorted1 _) ?_
 unfold Builtin.«sorted»
 refine Qc (m:=checkCount "sorted" 1 1 _) (Qd ?_)
 refine Qc (wpAny_collect_seq p hT e1 e2 e3 (λh' kp=>?_) (by rw [aZ];omega))
 refine Qc (wpAny_newList ?_ (by rw [List.toList_toArray];omega))
 have hoL:(h'.push (seqObj "list" its.toArray 0)).get? h'.objs.size=some (seqObj "list" its.toArray 0):=Qh _ rfl
 refine Qc (wpAny_holding (wpAny_call_entry slot_list_sort ⟨_,hoL,rfl⟩ entry_list_sort (list_sort_tree hoL hI (by omega) λout ns' a1 a2 a3=>⟨_,rfl,?_⟩) (args_list_sort _)))
 obtain⟨s1,s2⟩:=qHJ is
 obtain rfl:ns'=fF is:=mf (a2.trans s1.symm) a3 s2
 have I1:Inv X pins Z H { s with heap:=h' }:=I.kept (t':=s.toks) kp
 obtain⟨ep,he⟩:=sortedHeap_at (out:=out) hoL
 have kept:∀b ob,h'.get? b=some ob->(sortedHeap (h'.push (seqObj "list" its.toArray 0)) h'.objs.size its out).get? b=some ob:=λb ob hb=>by
  have hlt:=Qi hb
  rw [sortedHeap_old (cD hlt) (by rw [Heap.size_push];exact Nat.lt_succ_of_lt hlt)]
  exact Qg _ hb
 refine Qd ⟨_,rfl,.ref h'.objs.size,_,I1.laid (t':=s.toks) (o:=.lst ((fF is).map V.int)) kept (aK _) ⟨?_,out.toList,ep,vL a1,?_⟩,rfl,q _ (I1.hok.fresh (aK _))⟩
 ·rw [fV,s1.length_eq]
  omega
 ·rw [he]
theorem qJt (hc:X.calm=true):CallR X (.builtin "any") (λxs H Q=>∃(p:Addr) (bs:List Bool),xs=[.ref p]/\SqL X.K H p (bs.map V.bl)/\Q (.bl (bs.any id)) H):=by
 intro pins s Z H xs us Q I r h
 obtain⟨p,bs,rfl,hq,q⟩:=h
 obtain⟨u,rfl,ru⟩:=eY r
 cases ru
 obtain⟨its,rv,pl,z⟩:=I.list hq
 have hlen:bs.length=its.length:=by simpa using rv.length
 have hlt:p<s.heap.objs.size:=by obtain⟨_,e,_⟩:=pl.isList;exact Qi e
 refine call_any_walk (wpAny_pyIter_list pl.isList ?_)
 refine⟨s.heap.objs.size,_,_,_,_,_,λi=>(bs[i]?).getD false,rfl,Walks.list (A:=X.A.in1) (I.ok.hd hc) _ p (cD hlt) its.toArray,⟨⟨_,Qh _ rfl,rfl,rfl⟩,pl.isList.push _⟩,?_,λh' tk hk=>?_⟩
 ·intro i v s' Q' E' hv hQ
  have hi:its[i]?=some v:=by simpa using hv
  have hib:i<bs.length:=by
   have:=(yal.mp hi).1
   omega
  obtain⟨u,e1,e2⟩:=rv.get (i:=i) (x:=.bl bs[i]) (by simp [hib])
  rw [hi] at e1
  cases e1
  cases e2
  have:(bs[i]?).getD false=bs[i]:=by simp [hib]
  have hQ':Q' ((bs[i]?).getD false) s':=hQ
  rw [this] at hQ'
  exact wpAny_truthy_bool hQ'
 ·have e:(List.range its.toArray.size).any (λi=>(bs[i]?).getD false)=bs.any id:=by
   rw [aZ,<-hlen,sT,mW,mW]
   constructor
   ·rintro⟨i,hi,hb⟩
    have hi':i<bs.length:=by simpa using hi
    exact⟨bs[i],gR hi',by simpa [hi'] using hb⟩
   ·rintro⟨b,hb,h⟩
    obtain⟨i,hi,rfl⟩:=yaV.mp hb
    exact⟨i,by simpa using hi,by simpa [hi] using h⟩
  rw [e]
  refine⟨.bl _,H,?_,rfl,q⟩
  refine I.kept (t':=tk) λb o eb=>hk b o (λhb=>?_) (Qg _ eb)
  have:b=s.heap.objs.size:=by simpa using hb
  subst this
  exact Qn (Qi eb) (fX _)
end
theorem CW (A:Around):A.in1.units=A.units+1:=rfl
theorem rF:∀ds es:List D,fv ds es=((List.range (min ds.length es.length)).all (λj=>bu (ds.getD j .non) (es.getD j .non))&&ds.length == es.length)
 | [],[]=>rfl
 | [],e::es=>by
  have h:(([]:List D).length == (e::es).length)=false:=rfl
  rw [h,kX];rfl
 | d::ds,[]=>by
  have h:((d::ds).length == ([]:List D).length)=false:=rfl
  rw [h,kX];rfl
 | d::ds,e::es=>by
  have h:=rF ds es
  simp only [fv,h,fW,Nat.succ_min_succ,List.range_succ_eq_map,ft,List.getD_cons_zero,List.all_map]
  have e2:((λj=>bu ((d::ds).getD j .non) ((e::es).getD j .non)) ∘ Nat.succ)=λj=>bu (ds.getD j .non) (es.getD j .non):=by funext j;simp
  rw [e2,Bool.and_assoc]
  congr 2
  simp
mutual
theorem Cf:∀d:D,bu d d=true
 | .non=>by simp
 | .bl _=>by simp
 | .int _=>by simp
 | .str _=>by simp
 | .tup ds=>by simpa using rC ds
 | .lst ds=>by simpa using rC ds
 | .dct _ _=>by simp
 | .obj _ ds=>by simpa using rC ds
theorem rC:∀ds:List D,fv ds ds=true
 | []=>by simp
 | d::ds=>by simp [Cf d,rC ds]
end
section
variable {X:Cx}{pins:List (Addr×Obj)}{Z:L2.St}{H:Hp}{s:Shared}{F:Fz}
theorem zJ (I:Inv X pins Z H s) (h:SqL X.K H a xs) (h':SqT X.K H a ys):False:=by
 obtain⟨its,_,p,_⟩:=I.list h
 obtain⟨its',_,p',_⟩:=I.tuple h'
 exact SeqAt.ne_of_list_tuple p.isList (show s.heap.IsTuple a its'.toArray from p') rfl
mutual
theorem RP.inj (I:Inv X pins Z H s):∀{d e:D}{v:V},br d=true->br e=true->RP X.K H F d v->RP X.K H F e v->d=e
 | .non,e,v,n,n',h,h'=>by
  have:=h.non;subst this
  cases e with
  | dct _ _=>exact Qn h' RP.noDct
  | obj _ _=>exact Qn n' (by simp)
  | non=>rfl
  | bl _=>exact Qn h'.bl (by simp)
  | int _=>exact Qn h'.int (by simp)
  | str _=>exact Qn h'.str (by simp)
  | tup _=>obtain⟨_,_,q,_⟩:=h'.tup;cases q
  | lst _=>obtain⟨_,_,q,_⟩:=h'.lst;cases q
 | .bl b,e,v,n,n',h,h'=>by
  have:=h.bl;subst this
  cases e with
  | dct _ _=>exact Qn h' RP.noDct
  | obj _ _=>exact Qn n' (by simp)
  | non=>exact Qn h'.non (by simp)
  | bl _=>have:=h'.bl;cases this;rfl
  | int _=>exact Qn h'.int (by simp)
  | str _=>exact Qn h'.str (by simp)
  | tup _=>obtain⟨_,_,q,_⟩:=h'.tup;cases q
  | lst _=>obtain⟨_,_,q,_⟩:=h'.lst;cases q
 | .int b,e,v,n,n',h,h'=>by
  have:=h.int;subst this
  cases e with
  | dct _ _=>exact Qn h' RP.noDct
  | obj _ _=>exact Qn n' (by simp)
  | non=>exact Qn h'.non (by simp)
  | bl _=>exact Qn h'.bl (by simp)
  | int _=>have:=h'.int;cases this;rfl
  | str _=>exact Qn h'.str (by simp)
  | tup _=>obtain⟨_,_,q,_⟩:=h'.tup;cases q
  | lst _=>obtain⟨_,_,q,_⟩:=h'.lst;cases q
 | .str b,e,v,n,n',h,h'=>by
  have:=h.str;subst this
  cases e with
  | dct _ _=>exact Qn h' RP.noDct
  | obj _ _=>exact Qn n' (by simp)
  | non=>exact Qn h'.non (by simp)
  | bl _=>exact Qn h'.bl (by simp)
  | int _=>exact Qn h'.int (by simp)
  | str _=>have:=h'.str;cases this;rfl
  | tup _=>obtain⟨_,_,q,_⟩:=h'.tup;cases q
  | lst _=>obtain⟨_,_,q,_⟩:=h'.lst;cases q
 | .tup ds,e,v,n,n',h,h'=>by
  obtain⟨a,vs,rfl,h1,h2⟩:=h.tup
  cases e with
  | dct _ _=>exact Qn h' RP.noDct
  | obj _ _=>exact Qn n' (by simp)
  | non=>exact Qn h'.non (by simp)
  | bl _=>exact Qn h'.bl (by simp)
  | int _=>exact Qn h'.int (by simp)
  | str _=>exact Qn h'.str (by simp)
  | tup es=>obtain⟨b,ws,q,h3,h4⟩:=h'.tup;cases q;rw [I.tuple_inj h3 h1] at h4;rw [RDs.inj I (by simpa using n) (by simpa using n') h2 h4]
  | lst _=>obtain⟨b,ws,q,h3,h4⟩:=h'.lst;cases q;exact (zJ I h3 h1).elim
 | .lst ds,e,v,n,n',h,h'=>by
  obtain⟨a,vs,rfl,h1,h2⟩:=h.lst
  cases e with
  | dct _ _=>exact Qn h' RP.noDct
  | obj _ _=>exact Qn n' (by simp)
  | non=>exact Qn h'.non (by simp)
  | bl _=>exact Qn h'.bl (by simp)
  | int _=>exact Qn h'.int (by simp)
  | str _=>exact Qn h'.str (by simp)
  | lst es=>obtain⟨b,ws,q,h3,h4⟩:=h'.lst;cases q;rw [I.list_inj h3 h1] at h4;rw [RDs.inj I (by simpa using n) (by simpa using n') h2 h4]
  | tup _=>obtain⟨b,ws,q,h3,h4⟩:=h'.tup;cases q;exact (zJ I h1 h3).elim
 | .dct _ _,e,v,n,n',h,h'=>Qn h RP.noDct
 | .obj _ _,e,v,n,n',h,h'=>Qn n (by simp)
theorem RDs.inj (I:Inv X pins Z H s):∀{ds es:List D}{vs:List V},bT ds=true->bT es=true->RDs X.K H F ds vs->RDs X.K H F es vs->ds=es
 | [],es,vs,n,n',h,h'=>by
  simp only [RDs] at h;subst h
  cases es with
  | nil=>rfl
  | cons _ _=>simp only [RDs] at h';obtain⟨_,_,q,_⟩:=h';cases q
 | d::ds,es,vs,n,n',h,h'=>by
  simp only [RDs] at h
  obtain⟨v,r,rfl,h1,h2⟩:=h
  cases es with
  | nil=>simp only [RDs] at h';cases h'
  | cons e es =>
   simp only [RDs] at h'
   obtain⟨v',r',q,h3,h4⟩:=h'
   cases q
   simp only [bT,aY] at n n'
   rw [RP.inj I n.1 n'.1 (.inl h1) (.inl h3),RDs.inj I n.2 n'.2 h2 h4]
end
theorem RDs.vals (h:RDs X.K H F ds vs) (r:Vals vs us) (j:Nat) (hj:j<us.toArray.size) :
  ∃v,RD X.K H F (ds.getD j .non) v/\RelV v us.toArray[j]:=by
 have l1:=RDs.length h
 have l2:=r.length
 have hj':j<us.length:=by simpa using hj
 have hd:ds[j]?=some (ds.getD j .non):=by simp [List.getD,show j<ds.length by omega]
 obtain⟨v,e1,e2⟩:=RDs.get h hd
 obtain⟨u,e3,e4⟩:=r.get e1
 refine⟨v,e2,?_⟩
 have:us.toArray[j]=u:=by
  have:=yal.mp e3
  obtain⟨_,q⟩:=this
  simpa using q
 rw [this];exact e4
theorem lZ:∀{ds:List D}(j:Nat),bT ds=true->br (ds.getD j .non)=true
 | [],j,_=>by simp [List.getD]
 | d::ds,0,h=>by simp at h;simpa using h.1
 | d::ds,j+1,h=>by simp at h;simpa using lZ j h.2
theorem vJ:∀{n:Nat}{ds:List D}(j:Nat),hJ n ds=true->bI n (ds.getD j .non)=true
 | n,[],j,_=>by cases n<;>simp [List.getD]
 | n,d::ds,0,h=>by simp at h;simpa using h.1
 | n,d::ds,j+1,h=>by simp at h;simpa using vJ j h.2
def VS (X:Cx) (H:Hp) (F:Fz) (s:Shared):D->Value->Prop
 | .non,u=>u=.none
 | .bl b,u=>u=.bool b
 | .int i,u=>∃t,u=.int i t
 | .str x,u=>∃t,u=.str x t
 | .tup ds,u=>∃a its vs,u=.ref a/\s.heap.IsTuple a its.toArray/\RDs X.K H F ds vs/\Vals vs its
 | .lst ds,u=>∃a its vs,u=.ref a/\s.heap.IsList a its.toArray/\RDs X.K H F ds vs/\Vals vs its
 | .dct _ _,_=>False
 | .obj _ _,_=>True
theorem fJ (I:Inv X pins Z H s):∀{d:D}{x:V}{u:Value},RP X.K H F d x->RelV x u->VS X H F s d u
 | .non,x,u,h,r=>by have:=h.non;subst this;exact r
 | .bl _,x,u,h,r=>by have:=h.bl;subst this;exact r
 | .int _,x,u,h,r=>by have:=h.int;subst this;exact r
 | .str _,x,u,h,r=>by have:=h.str;subst this;exact r
 | .tup ds,x,u,h,r=>by
  obtain⟨a,vs,rfl,h1,h2⟩:=h.tup
  obtain⟨its,rv,p,_⟩:=I.tuple h1
  exact⟨a,its,vs,r,p,h2,rv⟩
 | .lst ds,x,u,h,r=>by
  obtain⟨a,vs,rfl,h1,h2⟩:=h.lst
  obtain⟨its,rv,p,_⟩:=I.list h1
  exact⟨a,its,vs,r,p.isList,h2,rv⟩
 | .dct _ _,x,u,h,r=>Qn h RP.noDct
 | .obj _ _,x,u,h,r=>trivial
inductive VW (X:Cx) (H:Hp) (F:Fz) (s:Shared):D->Value->Prop
 | non:VW X H F s .non .none
 | bl (b):VW X H F s (.bl b) (.bool b)
 | int (i t):VW X H F s (.int i) (.int i t)
 | str (x t):VW X H F s (.str x) (.str x t)
 | tup (ds a its vs):s.heap.IsTuple a its.toArray->RDs X.K H F ds vs->Vals vs its->VW X H F s (.tup ds) (.ref a)
 | lst (ds a its vs):s.heap.IsList a its.toArray->RDs X.K H F ds vs->Vals vs its->VW X H F s (.lst ds) (.ref a)
theorem jm {u:Value}:∀{d:D},VS X H F s d u->br d=true->VW X H F s d u
 | .non,k,_=>by cases (show u=.none from k);exact .non
 | .bl b,k,_=>by cases (show u=.bool b from k);exact .bl b
 | .int _,⟨t,e⟩,_=>e▸.int _ t
 | .str _,⟨t,e⟩,_=>e▸.str _ t
 | .tup ds,⟨a,its,vs,e,p,h,v⟩,_=>e▸.tup ds a its vs p h v
 | .lst ds,⟨a,its,vs,e,p,h,v⟩,_=>e▸.lst ds a its vs p h v
noncomputable def flt:D->D->Bool
 | .tup _,.tup _=>false
 | .lst _,.lst _=>false
 | _,_=>true
theorem BG {A:Around}{d e:D}{u v:Value}(kx:VW X H F s d u) (ky:VW X H F s e v) (hA:A.units<cLine) (hf:flt d e=true):SeqAt.EqAt A s u v (bu d e)/\SeqAt.RcAt A s u v (bu d e)/\SeqAt.RcNeAt A s u v (!bu d e):=by
 cases kx with
 | non=>cases ky with
  | non=>exact⟨.same _,.none_none,.none_none⟩
  | bl b=>exact⟨.none_bool _,.none_bool _,.none_bool _⟩
  | int b t=>exact⟨.none_int _ _,.none_int _ _,.none_int _ _⟩
  | str b t=>exact⟨.none_str _ _,.none_str _ _,.none_str _ _⟩
  | tup es b its2 vs2 p2 hd2 hv2=>exact⟨.none_tuple p2 hA,.none_tuple p2 hA,.none_tuple p2 hA⟩
  | lst es b its2 vs2 p2 hd2 hv2=>exact⟨.none_list p2 hA,.none_list p2 hA,.none_list p2 hA⟩
 | bl c=>cases ky with
  | non=>exact⟨.bool_none _,.bool_none _,.bool_none _⟩
  | bl b=>exact⟨.bool_bool _ _,.bool_bool _ _,.bool_bool _ _⟩
  | int b t=>exact⟨.bool_int _ _ _,.bool_int _ _ _,.bool_int _ _ _⟩
  | str b t=>exact⟨.bool_str _ _ _,.bool_str _ _ _,.bool_str _ _ _⟩
  | tup es b its2 vs2 p2 hd2 hv2=>exact⟨.bool_tuple _ p2 hA,.bool_tuple _ p2 hA,.bool_tuple _ p2 hA⟩
  | lst es b its2 vs2 p2 hd2 hv2=>exact⟨.bool_list _ p2 hA,.bool_list _ p2 hA,.bool_list _ p2 hA⟩
 | int c tc=>cases ky with
  | non=>exact⟨.int_none _ _,.int_none _ _,.int_none _ _⟩
  | bl b=>exact⟨.int_bool _ _ _,.int_bool _ _ _,.int_bool _ _ _⟩
  | int b t=>exact⟨.int_int _ _ _ _,.int_int _ _ _ _,.int_int _ _ _ _⟩
  | str b t=>exact⟨.int_str _ _ _ _,.int_str _ _ _ _,.int_str _ _ _ _⟩
  | tup es b its2 vs2 p2 hd2 hv2=>exact⟨.int_tuple _ _ p2 hA,.int_tuple _ _ p2 hA,.int_tuple _ _ p2 hA⟩
  | lst es b its2 vs2 p2 hd2 hv2=>exact⟨.int_list _ _ p2 hA,.int_list _ _ p2 hA,.int_list _ _ p2 hA⟩
 | str c tc=>cases ky with
  | non=>exact⟨.str_none _ _,.str_none _ _,.str_none _ _⟩
  | bl b=>exact⟨.str_bool _ _ _,.str_bool _ _ _,.str_bool _ _ _⟩
  | int b t=>exact⟨.str_int _ _ _ _,.str_int _ _ _ _,.str_int _ _ _ _⟩
  | str b t=>exact⟨.str_str _ _ _ _,.str_str _ _ _ _,.str_str _ _ _ _⟩
  | tup es b its2 vs2 p2 hd2 hv2=>exact⟨.str_tuple _ _ p2 hA,.str_tuple _ _ p2 hA,.str_tuple _ _ p2 hA⟩
  | lst es b its2 vs2 p2 hd2 hv2=>exact⟨.str_list _ _ p2 hA,.str_list _ _ p2 hA,.str_list _ _ p2 hA⟩
 | tup ds a its vs p hd hv=>cases ky with
  | non=>exact⟨.tuple_none p hA,.tuple_none p hA,.tuple_none p hA⟩
  | bl b=>exact⟨.tuple_bool _ p hA,.tuple_bool _ p hA,.tuple_bool _ p hA⟩
  | int b t=>exact⟨.tuple_int _ _ p hA,.tuple_int _ _ p hA,.tuple_int _ _ p hA⟩
  | str b t=>exact⟨.tuple_str _ _ p hA,.tuple_str _ _ p hA,.tuple_str _ _ p hA⟩
  | tup es b its2 vs2 p2 hd2 hv2=>cases hf
  | lst es b its2 vs2 p2 hd2 hv2=>exact⟨.tuple_list p p2 hA,.tuple_list p p2 hA,.tuple_list p p2 hA⟩
 | lst ds a its vs p hd hv=>cases ky with
  | non=>exact⟨.list_none p hA,.list_none p hA,.list_none p hA⟩
  | bl b=>exact⟨.list_bool _ p hA,.list_bool _ p hA,.list_bool _ p hA⟩
  | int b t=>exact⟨.list_int _ _ p hA,.list_int _ _ p hA,.list_int _ _ p hA⟩
  | str b t=>exact⟨.list_str _ _ p hA,.list_str _ _ p hA,.list_str _ _ p hA⟩
  | tup es b its2 vs2 p2 hd2 hv2=>exact⟨.list_tuple p p2 hA,.list_tuple p p2 hA,.list_tuple p p2 hA⟩
  | lst es b its2 vs2 p2 hd2 hv2=>cases hf
theorem z0 {d e:D}(h:¬flt d e=true):(∃ds es,d=.tup ds/\e=.tup es)∨∃ds es,d=.lst ds/\e=.lst es:=by
 cases d with
 | tup ds=>cases e with
  | tup es=>exact .inl ⟨_,_,rfl,rfl⟩
  | _=>exact Qn rfl h
 | lst ds=>cases e with
  | lst es=>exact .inr ⟨_,_,rfl,rfl⟩
  | _=>exact Qn rfl h
 | _=>exact Qn rfl h
theorem CP {x:V}{a:Addr}(h:RelV x (.ref a)):x=.ref a:=by
 cases x<;>first|(cases h;done)|(obtain⟨_,h⟩:=h;cases h;done)|(have z:Value.ref _=Value.ref _:=h;cases z;rfl)
theorem ue (I:Inv X pins Z H s) (n:Nat):∀(d e:D) (x y:V) (u v:Value) (A:Around),RP X.K H F d x->RP X.K H F e y->RelV x u->RelV y v->(bI n d||bI n e)=true->br d=true->br e=true->A.units+n<cLine ->
   SeqAt.EqAt A s u v (bu d e)/\SeqAt.RcAt A s u v (bu d e)/\SeqAt.RcNeAt A s u v (!bu d e):=by
 induction n with
 | zero =>
  intro d e x y u v A hx hy ru rv hs hn hn' hu
  refine BG (jm (fJ I hx ru) hn) (jm (fJ I hy rv) hn') (by omega) (Decidable.byContradiction λh=>?_)
  rcases z0 h with ⟨_,_,rfl,rfl⟩|⟨_,_,rfl,rfl⟩<;>cases hs
 | succ n ih =>
  intro d e x y u v A hx hy ru rv hs hn hn' hu
  have hA:A.units<cLine:=by omega
  by_cases hf:flt d e=true
  ·exact BG (jm (fJ I hx ru) hn) (jm (fJ I hy rv) hn') hA hf
  have hj:∀{ds es:List D} {vs vs2:List V} {its its2:List Value},RDs X.K H F ds vs->Vals vs its->RDs X.K H F es vs2->Vals vs2 its2->(hJ n ds||hJ n es)=true->bT ds=true->bT es=true ->
    ∀j (h1:j<its.toArray.size) (h2:j<its2.toArray.size),SeqAt.EqAt A.in1 s its.toArray[j] its2.toArray[j] (bu (ds.getD j .non) (es.getD j .non)):=λhd hv hd2 hv2 hs hn hn' j h1 h2=>by
   obtain⟨v1,q1,q2⟩:=RDs.vals hd hv j h1
   obtain⟨v2,q3,q4⟩:=RDs.vals hd2 hv2 j h2
   refine (ih _ _ v1 v2 _ _ A.in1 (.inl q1) (.inl q3) q2 q4 ?_ (lZ j hn) (lZ j hn') (by rw [CW];omega)).1
   rw [fC] at hs ⊢
   exact hs.imp (vJ j) (vJ j)
  have two:∀{a b:Addr},u=.ref a->v=.ref b->SeqAt.RcAt A s u v (bu d e)->SeqAt.EqAt A s u v (bu d e):=λ{a b} e1 e2 r=>by
   subst e1 e2
   by_cases hab:a=b
   ·subst hab
    rw [CP ru] at hx
    rw [CP rv] at hy
    rw [RP.inj I hn hn' hx hy,Cf]
    exact SeqAt.EqAt.same _
   ·exact SeqAt.EqAt.of_refs hab r
  rcases z0 hf with ⟨ds,es,rfl,rfl⟩|⟨ds,es,rfl,rfl⟩
  ·cases jm (fJ I hx ru) hn with
   | tup _ a its vs p hd hv=>cases jm (fJ I hy rv) hn' with
    | tup _ b its2 vs2 p2 hd2 hv2 =>
     have e1:((List.range (min its.toArray.size its2.toArray.size)).all (λj=>bu (ds.getD j .non) (es.getD j .non))&&its.toArray.size == its2.toArray.size)=bu (.tup ds) (.tup es):=by
      simp only [bu,rF,aZ,<-hv.length,<-hv2.length,RDs.length hd,RDs.length hd2]
     have r1:=SeqAt.RcAt.tuples p p2 hA (hj hd hv hd2 hv2 hs hn hn')
     have r2:=SeqAt.RcNeAt.tuples p p2 hA (hj hd hv hd2 hv2 hs hn hn')
     rw [e1] at r1 r2
     exact⟨two rfl rfl r1,r1,r2⟩
  ·cases jm (fJ I hx ru) hn with
   | lst _ a its vs p hd hv=>cases jm (fJ I hy rv) hn' with
    | lst _ b its2 vs2 p2 hd2 hv2 =>
     have l1:=RDs.length hd
     have l2:=RDs.length hd2
     have l3:=hv.length
     have l4:=hv2.length
     have both:SeqAt.RcAt A s (.ref a) (.ref b) (bu (.lst ds) (.lst es))/\SeqAt.RcNeAt A s (.ref a) (.ref b) (!bu (.lst ds) (.lst es)):=by
      by_cases hsz:its.toArray.size=its2.toArray.size
      ·have e1:(List.range its.toArray.size).all (λj=>bu (ds.getD j .non) (es.getD j .non))=bu (.lst ds) (.lst es):=by
        have hl:ds.length=es.length:=by simp only [aZ] at hsz;omega
        have hm:its.toArray.size=min ds.length es.length:=by simp only [aZ];omega
        simp only [bu,rF,hm,hl,beq_self_eq_true,jJ]
       have r1:=SeqAt.RcAt.lists p p2 hsz hA (hj hd hv hd2 hv2 hs hn hn')
       have r2:=SeqAt.RcNeAt.lists p p2 hsz hA (hj hd hv hd2 hv2 hs hn hn')
       rw [e1] at r1 r2
       exact⟨r1,r2⟩
      ·have hb:(its.toArray.size != its2.toArray.size)=true:=by simpa using hsz
       have e1:bu (.lst ds) (.lst es)=false:=by
        have hl:(ds.length == es.length)=false:=by
         simp only [aZ] at hsz
         rw [beq_eq_false_iff_ne];omega
        simp only [bu,rF,hl,kX]
       rw [e1]
       exact⟨SeqAt.RcAt.lists_lengths p p2 hb hA,SeqAt.RcNeAt.lists_lengths p p2 hb hA⟩
     exact⟨two rfl rfl both.1,both⟩
end
end Dw
namespace Dw
section
open PySem PySem.W PySem.Calls PyProof.Rows
variable {prog:Program}{w:World}{A:Around}{E:Value->Shared->Prop}{s:Shared}
def IR:List Value->List Int->Prop
 | [],[]=>True
 | v::vs,i::is=>(∃t,v=.int i t)/\IR vs is
 | _,_=>False
theorem IR.len:∀{vs:List Value}{is:List Int},IR vs is->vs.length=is.length
 | [],[],_=>rfl
 | _::_,_::_,x=>congrArg (·+1) x.2.len
theorem Cq {Q:Bool->Shared->Prop}:∀{a b:List Int}{va vb:List Value}(i:Nat),IR va a->IR vb b->Q (dI a b) s->KatLex prog w A true (decide (a.length<b.length)) Q (va.zip vb) i s
 | [],[],[],[],i,_,_,h=>kat_nil h
 | [],_::_,[],_::_,i,_,_,h=>by
  rw [List.zip_nil_left,Qk (by simp)]
  exact kat_nil h
 | _::_,[],_::_,[],i,_,_,h=>by
  rw [List.zip_nil_right,Qj (by simp)]
  exact kat_nil h
 | x::a,y::b,v::va,u::vb,i,ha,hb,h=>by
  obtain⟨⟨t,rfl⟩,ha⟩:=ha
  obtain⟨⟨t',rfl⟩,hb⟩:=hb
  rw [List.zip_cons_cons]
  refine kat_cons (wpAny_eqBool_int ?_)
  rw [dI] at h
  by_cases e:x=y
  ·rw [Ql e] at h
   rw [show (x == y)=true from beq_iff_eq.mpr e]
   refine kat_yes ?_
   have:=Cq (i+1) ha hb h
   rw [show decide ((x::a).length<(y::b).length)=decide (a.length<b.length) by simp]
   exact this
  ·rw [Qm e] at h
   rw [show (x == y)=false from beq_eq_false_iff_ne.mpr e]
   refine kat_no ?_
   cases i with
   | zero=>exact oneLt_int h
   | succ i=>exact kat_one _ _ (wpAny_lt_int h)
def TpAt (h:Heap) (v:Value) (is:List Int):Prop:=∃x o n vs,v=.ref x/\h.get? x=some o/\o.cls=.type "tuple"/\o.data=.seq vs.toArray n/\IR vs is
theorem TpAt.mv {h h':Heap}{v:Value}{i:List Int}(x:TpAt h v i) (k:∀a o,v=.ref a->h.get? a=some o->h'.get? a=some o):TpAt h' v i:=
 let ⟨a,o,n,vs,e,h1,h2⟩:=x;⟨a,o,n,vs,e,k a o e h1,h2⟩
theorem qTw {v z:Value}{p q:List Int}{Q:Bool->Shared->Prop}(hv:TpAt s.heap v p) (hz:TpAt s.heap z q) (h:Q (dI p q) s):wpAny (model prog w) A (keyLt' (tuples' true) v z) Q E s:=by
 obtain⟨x,o,n,r,rfl,x1,x2,x3,x4⟩:=hv
 obtain⟨y,o',n',r',rfl,y1,y2,y3,y4⟩:=hz
 refine kat_lt x1 x3 y1 y3 ?_
 rw [aZ,aZ,x4.len,y4.len]
 exact Cq 0 x4 y4 h
def AllT (h:Heap):List Value->List (List Int)->Prop
 | [],[]=>True
 | v::vs,p::ps=>TpAt h v p/\AllT h vs ps
 | _,_=>False
theorem AllT.len {h:Heap}:∀{vs:List Value}{ps:List (List Int)},AllT h vs ps->vs.length=ps.length
 | [],[],_=>rfl
 | _::_,_::_,x=>congrArg (·+1) x.2.len
theorem AllT.at {h:Heap}:∀{vs:List Value}{ps:List (List Int)},AllT h vs ps->∀i,i<vs.length->TpAt h (vs.getD i .none) (ps.getD i [])
 | [],[],_,i,hi=>Qn hi (sS _)
 | _::_,_::_,x,0,_=>x.1
 | _::vs,_::ps,x,i+1,hi=>AllT.at (vs:=vs) (ps:=ps) x.2 i (sG hi)
theorem AllT.mv {h h':Heap}:∀{vs:List Value}{ps:List (List Int)},AllT h vs ps->(∀v∈vs,∀a o,v=.ref a->h.get? a=some o->h'.get? a=some o)->AllT h' vs ps
 | [],[],_,_=>trivial
 | v::_,_::_,x,k=>⟨x.1.mv (k v dz),AllT.mv x.2 λv hv=>k v (dM _ hv)⟩
theorem AllT.tups {h:Heap}:∀{vs:List Value}{ps:List (List Int)},AllT h vs ps->(∀t∈ps,t≠[])->∃fs:List Value,KatTups h vs fs/\fs.length=ps.length/\∀v∈fs,∃i t,v=.int i t
 | [],[],_,_=>⟨[],trivial,rfl,λ_ h=>nomatch h⟩
 | _::vs,p::ps,x,hn=>by
  obtain⟨fs,h1,h2,h3⟩:=AllT.tups (vs:=vs) (ps:=ps) x.2 λt ht=>hn t (dM _ ht)
  obtain⟨a,o,n,r,rfl,e1,e2,e3,e4⟩:=x.1
  match p,r,e4,hn p dz with
  | q::p,u::r,e4,_ =>
   obtain⟨⟨t,rfl⟩,_⟩:=e4
   refine⟨.int q t::fs,KatTups.cons e1 e2 e3 rfl h1,congrArg (·+1) h2,λv hv=>?_⟩
   rcases yag.mp hv with rfl|hv
   ·exact⟨_,_,rfl⟩
   ·exact h3 v hv
  | [],_,_,hp=>exact Qn rfl hp
theorem qIB {vs:List Value}{ps:List (List Int)}{Q:SortKind->Shared->Prop}(h:AllT s.heap vs ps) (hn:∀t∈ps,t≠[]) (h0:0<vs.length) (k:Q (tuples' true) s):wpAny (model prog w) A (keyKind' vs.toArray) Q E s:=by
 obtain⟨fs,h1,h2,h3⟩:=h.tups hn
 refine kat_kind (T:=.type "int") h1 (by rw [h2,<-h.len];exact h0) (λv hv=>?_) (by decide) k
 obtain⟨i,t,rfl⟩:=h3 v hv
 exact Looks.of_pure rfl
theorem qKn {a:Addr}{vs:List Value}{n:Nat}{P:PySem.Fin->Shared->Prop}(ho:s.heap.get? a=some (seqObj "list" vs.toArray n)) (h2:vs.length<2)
  (k:∀h' m,(∀b o,b≠a->s.heap.get? b=some o->h'.get? b=some o)->h'.get? a=some (seqObj "list" vs.toArray m)->P (.done (.ret .none)) { s with heap:=h' }) :
  wpAny (model prog w) A (Builtin.«list.sort» ⟨[.ref a],[]⟩) P E s:=by
 have s1:=Heap.SameBut.update s.heap a (Obj.mapSeq λ_=>(#[]:Array Value))
 obtain⟨e1,ho1⟩:∃e1,(s.heap.update a (Obj.mapSeq λ_=>(#[]:Array Value))).get? a=some (seqObj "list" #[] e1):=⟨_,get?_update_seq ho λ_=>#[]⟩
 generalize hH:((s.heap.update a (Obj.mapSeq λ_=>(#[]:Array Value))).push (seqObj "tuple" vs.toArray 0)).push (seqObj "list" #[] 0)=H3
 have kp:∀b o,b≠a->s.heap.get? b=some o->H3.get? b=some o:=λb o hb e=>by
  rw [<-hH];exact Qg _ (Qg _ (s1.extBut b o hb e))
 have ha3:H3.get? a=some (seqObj "list" #[] e1):=by rw [<-hH];exact Qg _ (Qg _ ho1)
 rw [list_sort_plain]
 refine Qc (listItems_at ho rfl (Qc (listUpdate_at ho rfl ?_ (by rw [aZ,sizeLine_eq];omega) (fq _))))
 refine Qc (seqEpoch_at ho1 rfl (Qc (wpAny_newTuple ?_ (by show vs.length<=_;rw [sizeLine_eq];omega))))
 refine Qc (wpAny_newList (wpAny_holding ?_) (fq _))
 show wpAny (model prog w) A _ P E { s with heap:=((s.heap.update a (Obj.mapSeq λ_=>(#[]:Array Value))).push (seqObj "tuple" vs.toArray 0)).push (seqObj "list" #[] 0) }
 rw [hH];dsimp only
 have hn2:vs.toArray.size<2:=by rw [aZ];omega
 rw [Ql hn2,Ql hn2]
 refine Qc (Qd ?_)
 rw [StateT.run_pure]
 refine Qc (Qd ?_)
 dsimp only
 have hout:(arrOf (SortSt.mk' general' (vs.toArray.zip vs.toArray) #[] 7 none)).map (·.2)=vs.toArray:=by
  show (vs.toArray.zip vs.toArray).map (·.2)=vs.toArray
  refine Array.ext' ?_
  rw [Array.toList_map,Array.toList_zip]
  exact List.map_snd_zip (aK _)
 rw [hout]
 obtain⟨c2,hc2⟩:∃c2,(H3.update a (Obj.mapSeq λ_=>vs.toArray)).get? a=some (seqObj "list" vs.toArray c2):=⟨_,get?_update_seq ha3 λ_=>vs.toArray⟩
 refine Qc (seqEpoch_at ha3 rfl (Qc (listUpdate_at ha3 rfl ?_ (fq _) (by rw [aZ,sizeLine_eq];omega))))
 simp only [bne_self_eq_false,jM,if_false]
 exact Qd (k _ c2 (λb o hb e=>(Heap.SameBut.update H3 a _).extBut b o hb (kp b o hb e)) hc2)
theorem qRy:∀vs:List Value,vs.length<2->(List.range vs.length).map (λi=>vs.getD i .none)=vs
 | [],_=>rfl
 | [_],_=>rfl
 | _::_::_,h=>Qn h (by simp)
theorem qHN {a:Addr}{vs:List Value}{ps:List (List Int)}{n:Nat}{P:PySem.Fin->Shared->Prop}(ho:s.heap.get? a=some (seqObj "list" vs.toArray n)) (hp:AllT s.heap vs ps) (hn:∀t∈ps,t≠[]) (hne:∀v∈vs,v≠.ref a) (h64:vs.length<64)
  (k:∀h' m,(∀b o,b≠a->s.heap.get? b=some o->h'.get? b=some o)->h'.get? a=some (seqObj "list" ((dW ps).map λi=>vs.getD i .none).toArray m)->P (.done (.ret .none)) { s with heap:=h' }) :
  wpAny (model prog w) A (Builtin.«list.sort» ⟨[.ref a],[]⟩) P E s:=by
 have hl:=hp.len
 by_cases h2:vs.length<2
 ·refine qKn ho h2 λh' m kp ha=>k h' m kp ?_
  have:((dW ps).map λi=>vs.getD i .none)=vs:=by
   unfold dW lu
   rw [Ql (by omega),<-hl]
   exact qRy vs h2
  rw [this]
  exact ha
 ·have mv:∀s':Shared,(∀b o,b≠a->s.heap.get? b=some o->s'.heap.get? b=some o)->AllT s'.heap vs ps:=λs' kp=>hp.mv λv hv b o e q=>kp b o (λz=>hne v hv (by rw [e,z])) q
  refine qHO (κ:=tuples' true) (c:=λi j=>dI (ps.getD i []) (ps.getD j [])) ho (by omega) h64 (λs' kp=>qIB (mv s' kp) hn (by omega) ⟨rfl,rfl⟩) (λs' kp i j C hi hj hC=>qTw ((mv s' kp).at i hi) ((mv s' kp).at j hj) hC) λh' m kp ha=>k h' m kp ?_
  have:iI (λi j=>dI (ps.getD i []) (ps.getD j [])) vs=(dW ps).map λi=>vs.getD i .none:=by
   unfold iI dW lu
   rw [Qm (by omega),hl]
  rw [<-this]
  exact ha
end
section
open PySem PySem.Spec PyProof.Rows L2
variable {X:Cx}
def TpV (K:Qb) (H:Hp):List V->List (List Int)->Prop
 | [],[]=>True
 | v::vs,i::is=>(∃a,v=.ref a/\SqT K H a (i.map V.int))/\TpV K H vs is
 | _,_=>False
theorem TpV.len {K:Qb}{H:Hp}:∀{vs:List V}{is:List (List Int)},TpV K H vs is->vs.length=is.length
 | [],[],_=>rfl
 | _::_,_::_,x=>congrArg (·+1) x.2.len
theorem zr:∀{is:List Int}{us:List Value},Vals (is.map V.int) us->IR us is
 | [],_,.nil=>trivial
 | _::_,_,.cons r t=>⟨r,zr t⟩
theorem A9 {pins:List (Addr×Obj)}{Z:L2.St}{H:Hp}{s:Shared}(I:Inv X pins Z H s):∀{vs:List V}{is:List (List Int)}{us:List Value},TpV X.K H vs is->Vals vs us->AllT s.heap us is
 | [],[],_,_,.nil=>trivial
 | v::vs,i::is,_,⟨⟨a,e,hq⟩,hr⟩,.cons r t=>by
  subst e
  cases r
  refine⟨?_,A9 I hr t⟩
  obtain⟨its,rv,⟨o,e1,e2,n,e3⟩,hz⟩:=I.tuple hq
  exact⟨a,o,n,_,rfl,e1,e2,e3,zr rv⟩
theorem Df {vs:List V}{us:List Value}(r:Vals vs us):∀(ks:List Nat),(∀k∈ks,k<vs.length)->Vals (ks.map λk=>vs.getD k .non) (ks.map λk=>us.getD k .none)
 | [],_=>.nil
 | k::ks,h=>by
  refine .cons ?_ (Df r ks λj hj=>h j (dM _ hj))
  have hk:=h k dz
  obtain⟨u,e1,e2⟩:=r.get (i:=k) (x:=vs[k]) (cV hk)
  show L2.RelV (vs.getD k V.non) (us.getD k Value.none)
  rw [eF,cV hk,eF,e1]
  exact e2
theorem qFa:CallR X (.builtin "sorted") (λxs H Q=>∃(p:Addr) (vs:List V) (is:List (List Int)),xs=[.ref p]/\SqL X.K H p vs/\TpV X.K H vs is/\(∀t∈is,t≠[])/\is.length<64/\∀l,H l=none->Q (.ref l) (aA H l (.lst ((dW is).map λk=>vs.getD k .non)))):=by
 intro pins s Z H xs us Q I r h
 obtain⟨p,vs,is,rfl,hq,hh,hnd,hl,q⟩:=h
 obtain⟨u,rfl,ru⟩:=eY r
 cases ru
 have fR:(64:Nat)<=sizeLine:=by decide
 obtain⟨its,n,sl,rv,_,e,_⟩:=Inv.lobj I hq
 have hlen:its.length=is.length:=by rw [<-rv.length];exact hh.len
 refine PySem.Calls.call_function_entry kind_sorted plain_sorted entry_sorted (args_sorted1 _) ?_
 unfold Builtin.«sorted»
 refine Qc (m:=checkCount "sorted" 1 1 _) (Qd ?_)
 refine Qc (wpAny_collect_seq p (.inl rfl) e rfl rfl (λh' kp=>?_) (by rw [aZ];omega))
 refine Qc (wpAny_newList ?_ (by rw [List.toList_toArray];omega))
 have I1:Inv X pins Z H { s with heap:=h' }:=I.kept (t':=s.toks) kp
 have hoL:(h'.push (seqObj "list" its.toArray 0)).get? h'.objs.size=some (seqObj "list" its.toArray 0):=Qh _ rfl
 have hA:AllT h' its is:=A9 I1 hh rv
 have hA1:AllT (h'.push (seqObj "list" its.toArray 0)) its is:=hA.mv λv hv a o e q=>Qg _ q
 have back:∀v∈its,v≠.ref h'.objs.size:=λv hv z=>by
  obtain⟨i,hi,rfl⟩:=yaV.mp hv
  have:=hA.at i hi
  rw [eF,cV hi] at this
  obtain⟨x,o,_,_,e,e1,_⟩:=this
  have e':its[i]=.ref x:=e
  rw [e'] at z
  cases z
  exact Qn (Qi e1) (fX _)
 refine Qc (wpAny_holding (wpAny_call_entry slot_list_sort ⟨_,hoL,rfl⟩ entry_list_sort (qHN hoL hA1 hnd back (by omega) λh'' m kp2 ha=>⟨_,rfl,?_⟩) (args_list_sort _)))
 have hp:(dW is).Perm _:=oj (λi j=>dI (is.getD i []) (is.getD j [])) is.length
 refine Qd ⟨.ref h'.objs.size,rfl,.ref h'.objs.size,_,I1.laid (t':=s.toks) (h':=h'') (a:=h'.objs.size) (o:=.lst ((dW is).map λk=>vs.getD k .non)) (λb ob hb=>kp2 b ob (cD (Qi hb)) (Qg _ hb)) (aK _) ⟨?_,(dW is).map λk=>its.getD k .none,m,Df rv _ λk hk=>?_,ha⟩,rfl,q _ (I1.hok.fresh (aK _))⟩
 ·rw [fV,hp.length_eq,List.length_range]
  omega
 ·rw [hh.len]
  simpa using hp.mem_iff.mp hk
theorem qKR {f:Value}{r r':List V->Hp->VK->Prop}(h:CallR X f r) (h':CallR X f r'):CallR X f (λxs H Q=>r xs H Q∨r' xs H Q):=
 λpins s Z H xs us Q I rv z=>z.elim (h pins s Z H xs us Q I rv) (h' pins s Z H xs us Q I rv)
end
end Dw
namespace Dw
open PySem PySem.Spec PyProof.Rows L2
noncomputable def nL:Ty->String
 | .int=>"int"|.bool=>"bool"|.tuple=>"tuple"|.list=>"list"|.str=>"str"
noncomputable def qLb:D->String
 | .non=>"NoneType"|.bl _=>"bool"|.int _=>"int"|.str _=>"str"|.tup _=>"tuple"|.lst _=>"list"|.dct _ _=>"NoneType"|.obj _ _=>"NoneType"
theorem qOC (K:Qb) (ty:Ty) (d:D):PySem.W.kitOne K (.type (qLb d)) (.type (nL ty))=some (pM ty d):=by
 cases ty<;>cases d<;>kernel_rfl
section
variable {X:Cx}
theorem qJr:CallR X (.builtin "isinstance") (λxs H Q=>∃(x:V) (d:D) (F:Fz) (ty:Ty) (b:Bool),xs=[x,.ty (nL ty)]/\RP X.K H F d x/\tG ty d=some (false,.bl b)/\Q (.bl b) H):=by
 intro pins s Z H xs us Q I r h
 obtain⟨x,d,F,ty,b,rfl,hx,hb,q⟩:=h
 have hb2:b=pM ty d:=by cases d<;>first|(cases hb;rfl)|cases hb
 subst hb2
 obtain⟨u,w',rfl,ru,rw'⟩:=ur r
 have rw'':w'=Value.type (nL ty):=rw'
 subst rw''
 have fin:∀tk,EP X pins Z Q (.bool (pM ty d)) { s with toks:=tk }:=λtk=>⟨.bl _,H,I.tok tk,rfl,q⟩
 have e:=qOC X.K ty d
 have k:=fJ I hx ru
 cases d with
 | dct _ _=>exact Qn hx RP.noDct
 | obj _ _=>cases hb
 | non=>have k:u=.none:=k;subst k;exact kY PySem.W.kitx_none I.kIn True.intro e (λz=>nomatch z) fin
 | bl b=>have k:u=.bool b:=k;subst k;exact kY PySem.W.kitx_bool I.kIn True.intro e (λz=>nomatch z) fin
 | int i=>obtain⟨t,rfl⟩:=k;exact kY PySem.W.kitx_int I.kIn True.intro e (λz=>nomatch z) fin
 | str i=>obtain⟨t,rfl⟩:=k;exact kY PySem.W.kitx_str I.kIn True.intro e (λz=>nomatch z) fin
 | tup ds=>obtain⟨a,its,vs,rfl,⟨o,h1,h2,_⟩,_⟩:=k;exact kY PySem.W.kitx_tuple I.kIn ⟨o,h1,h2⟩ e (λz=>nomatch z) fin
 | lst ds=>obtain⟨a,its,vs,rfl,⟨o,h1,h2,_⟩,_⟩:=k;exact kY PySem.W.kitx_list I.kIn ⟨o,h1,h2⟩ e (λz=>nomatch z) fin
theorem qQN (neg:Bool):OpR X (compareOp (if neg then .IsNot else .Is)) (λx y H Q=>∃(d e:D) (F:Fz) (b:Bool),RP X.K H F d x/\RP X.K H F e y/\mw neg d e=some (false,.bl b)/\Q (.bl b) H):=by
 intro pins s Z H x y v u Q I rx ry h
 obtain⟨d,e,F,b,hx,hy,hb,q⟩:=h
 have kx:=fJ I hx rx
 have ky:=fJ I hy ry
 have fin:∀c:Bool,c=b->EP X pins Z Q (.bool c) s:=λc z=>⟨.bl c,H,I,rfl,by rw [z];exact q⟩
 have go:∀(c:Bool),plainIs v u=true->(v == u)=c->(if neg then !c else c)=b->wpAny (model X.prog X.w) X.A (compareOp (if neg then .IsNot else .Is) v u) (EP X pins Z Q) X.xe s:=λc hp hv hc=>by
  subst hv
  cases neg with
  | true=>exact wpAny_isNot_plain hp (fin _ hc)
  | false=>exact wpAny_is_plain hp (fin _ hc)
 have no:∀{x y:Value},x≠y->(x == y)=false:=λh=>beq_eq_false_iff_ne.mpr h
 cases e with
 | non =>
  have ky:u=.none:=ky
  subst ky
  cases d with
  | dct _ _=>exact Qn hx RP.noDct
  | obj kn ds =>
   obtain⟨a,vs,rfl,_⟩:=hx.obj
   cases rx
   exact go false rfl (no (λz=>nomatch z)) (by cases neg<;>simp at hb ⊢<;>exact hb)
  | non=>have kx:v=.none:=kx;subst kx;exact go true rfl (beq_self_eq_true _) (by cases neg<;>simp at hb ⊢<;>exact hb)
  | bl c=>have kx:v=.bool c:=kx;subst kx;exact go false rfl (no (λz=>nomatch z)) (by cases neg<;>simp at hb ⊢<;>exact hb)
  | int c=>obtain⟨t,rfl⟩:=kx;exact go false rfl (no (λz=>nomatch z)) (by cases neg<;>simp at hb ⊢<;>exact hb)
  | str c=>obtain⟨t,rfl⟩:=kx;exact go false rfl (no (λz=>nomatch z)) (by cases neg<;>simp at hb ⊢<;>exact hb)
  | tup ds=>obtain⟨a,its,vs,rfl,_⟩:=kx;exact go false rfl (no (λz=>nomatch z)) (by cases neg<;>simp at hb ⊢<;>exact hb)
  | lst ds=>obtain⟨a,its,vs,rfl,_⟩:=kx;exact go false rfl (no (λz=>nomatch z)) (by cases neg<;>simp at hb ⊢<;>exact hb)
 | bl c2 =>
  have ky:u=.bool c2:=ky
  subst ky
  cases d with
  | dct _ _=>exact Qn hx RP.noDct
  | obj _ _=>cases hb
  | non=>have kx:v=.none:=kx;subst kx;exact go false rfl (no (λz=>nomatch z)) (by cases neg<;>simp at hb ⊢<;>exact hb)
  | bl c =>
   have kx:v=.bool c:=kx
   subst kx
   by_cases hc:c=c2
   ·subst hc
    exact go true rfl (beq_self_eq_true _) (by cases neg<;>simp at hb ⊢<;>exact hb)
   ·exact go false rfl (no (λz=>hc (by injection z))) (by cases neg<;>cases c<;>cases c2<;>simp at hb hc ⊢<;>exact hb)
  | int c=>obtain⟨t,rfl⟩:=kx;exact go false rfl (no (λz=>nomatch z)) (by cases neg<;>simp at hb ⊢<;>exact hb)
  | str c=>obtain⟨t,rfl⟩:=kx;exact go false rfl (no (λz=>nomatch z)) (by cases neg<;>simp at hb ⊢<;>exact hb)
  | tup ds=>obtain⟨a,its,vs,rfl,_⟩:=kx;exact go false rfl (no (λz=>nomatch z)) (by cases neg<;>simp at hb ⊢<;>exact hb)
  | lst ds=>obtain⟨a,its,vs,rfl,_⟩:=kx;exact go false rfl (no (λz=>nomatch z)) (by cases neg<;>simp at hb ⊢<;>exact hb)
 | _=>cases d<;>simp at hb
theorem qQP (hu:X.A.units+20<cLine):OpR X (compareOp .Eq) (λx y H Q=>∃(d e:D) (F:Fz),RP X.K H F d x/\RP X.K H F e y/\(bI 20 d||bI 20 e)=true/\br d=true/\br e=true/\Q (.bl (bu d e)) H):=by
 intro pins s Z H x y v u Q I rx ry h
 obtain⟨d,e,F,hx,hy,hs,n1,n2,q⟩:=h
 exact (ue I 20 d e x y v u X.A hx hy rx ry hs n1 n2 hu).2.1 _ _ _ _ ⟨.bl _,H,I,rfl,q⟩
theorem qQY (I:Inv X pins Z H s) (hx:RP X.K H F (.lst ds) x) (hy:RP X.K H F (.lst []) y) (ru:RelV x u) (rv:RelV y v) (hA:A.units<cLine):SeqAt.RcNeAt A s u v (!ds.isEmpty):=by
 obtain⟨a,its,vs,rfl,p,hd,hv⟩:=fJ I hx ru
 obtain⟨b,its2,vs2,rfl,p2,hd2,hv2⟩:=fJ I hy rv
 have l1:=RDs.length hd
 have l2:=RDs.length hd2
 have l3:=hv.length
 have l4:=hv2.length
 rw [sR] at l2
 by_cases hsz:its.toArray.size=its2.toArray.size
 ·simp only [aZ] at hsz
  have e:ds=[]:=yaG.mp (by omega)
  have e0:its.length=0:=by omega
  subst e
  have r2:=SeqAt.RcNeAt.lists (e:=λ_=>true) p p2 (by simpa using hsz) hA (λj h1 h2=>Qn h1 (by simp [e0]))
  rw [show its.toArray.size=0 by simpa using e0] at r2
  exact r2
 ·have hb:(its.toArray.size != its2.toArray.size)=true:=by simpa using hsz
  simp only [aZ] at hsz
  have e:ds.isEmpty=false:=by
   cases ds with
   | nil=>rw [sR] at l1;omega
   | cons _ _=>rfl
  rw [e]
  exact SeqAt.RcNeAt.lists_lengths p p2 hb hA
theorem qQM (hu:X.A.units+20<cLine):OpR X (compareOp .NotEq) (λx y H Q=>∃(d e:D) (F:Fz) (b:Bool),RP X.K H F d x/\RP X.K H F e y/\eI .ne d e=some (false,.bl b)/\Q (.bl b) H):=by
 intro pins s Z H x y v u Q I rx ry h
 obtain⟨d,e,F,b,hx,hy,hs,q⟩:=h
 rw [eI] at hs
 split at hs
 ·rename_i hc
  cases hs
  simp only [aY] at hc
  exact (ue I 20 d e x y v u X.A hx hy rx ry hc.1 hc.2.1 hc.2.2 hu).2.2 _ _ _ _ ⟨.bl _,H,I,rfl,q⟩
 ·unfold pX at hs
  split at hs
  ·cases hs
   exact qQY I hx hy rx ry (by omega) _ _ _ _ ⟨.bl _,H,I,rfl,q⟩
  ·cases hs
theorem RDs.at_ {K:Qb}{H:Hp}{F:Fz}:∀{ds:List D}{vs:List V},RDs K H F ds vs->∀i,i<vs.length->RD K H F (ds.getD i .non) (vs.getD i .non)
 | [],_,h,i,hi=>by cases h;exact Qn hi (sS _)
 | _::_,_,⟨v,r,e,h1,h2⟩,i,hi=>by
  subst e
  cases i with
  | zero=>exact h1
  | succ i=>exact RDs.at_ h2 i (sG hi)
theorem vz (r:Vals vs us) (i:Nat) (hi:i<vs.length):L2.RelV (vs.getD i .non) (us.getD i .none):=by
 obtain⟨u,e1,e2⟩:=r.get (i:=i) (x:=vs[i]) (cV hi)
 rw [eF,cV hi,eF,e1]
 exact e2
theorem zp {Z:L2.St}{H:Hp}{F:Fz}(I:Inv X pins Z H s) (hu:X.A.units+20<cLine) {d:D}{ds:List D}{x:V}{v:Value}{vs:List V}{us:List Value}(hx:RP X.K H F d x) (rx:L2.RelV x v) (hr:RDs X.K H F ds vs) (rv:Vals vs us) (hs:bI 19 d=true) (n1:br d=true) (n2:bT ds=true) :
  ∃e:Value->Bool,(∀y,y∈us.toArray->SeqAt.EqAt X.A.in1 s y v (e y))/\us.toArray.any e=dj ds d/\∀i,i<vs.length->e (us.getD i .none)=bu (ds.getD i .non) d:=by
 have hl:vs.length=us.length:=rv.length
 have hd:vs.length=ds.length:=RDs.length hr
 have he:∀i,i<vs.length->SeqAt.EqAt X.A.in1 s (us.getD i .none) v (bu (ds.getD i .non) d):=λi hi =>
  (ue I 19 _ _ _ _ _ _ X.A.in1 (.inl (RDs.at_ hr i hi)) hx (vz rv i hi) rx (by rw [hs,Bool.or_true]) (lZ i n2) n1 (by rw [CW];omega)).1
 have same:∀i j,i<vs.length->j<vs.length->us.getD i .none=us.getD j .none->ds.getD i .non=ds.getD j .non:=λi j hi hj e=>by
  have a:=vz rv i hi
  rw [e] at a
  have b:=a.inj (vz rv j hj)
  have c:=RDs.at_ hr i hi
  rw [b] at c
  exact RP.inj I (lZ i n2) (lZ j n2) (.inl c) (.inl (RDs.at_ hr j hj))
 have val:∀i,i<vs.length->@decide (∃j,j<vs.length/\us.getD j .none=us.getD i .none/\bu (ds.getD j .non) d=true) (Classical.propDecidable _)=bu (ds.getD i .non) d:=λi hi'=>by
  cases hq:bu (ds.getD i .non) d with
  | true=>exact @decide_eq_true _ (Classical.propDecidable _) ⟨i,hi',rfl,hq⟩
  | false =>
   refine @decide_eq_false _ (Classical.propDecidable _) ?_
   rintro⟨j,hj,ej,qj⟩
   rw [same j i hj hi' ej,hq] at qj
   cases qj
 refine⟨λy=>@decide (∃i,i<vs.length/\us.getD i .none=y/\bu (ds.getD i .non) d=true) (Classical.propDecidable _),λy hy=>?_,?_,val⟩
 ·obtain⟨i,hi,rfl⟩:=yaV.mp (by simpa using hy:y∈us)
  have hi':i<vs.length:=by omega
  have g:us.getD i .none=us[i]:=by rw [eF,cV hi];rfl
  have h:=he i hi'
  rw [g] at h
  have e:=val i hi'
  rw [g] at e
  show SeqAt.EqAt X.A.in1 s us[i] v (@decide (∃j,j<vs.length/\us.getD j .none=us[i]/\bu (ds.getD j .non) d=true) (Classical.propDecidable _))
  rw [e]
  exact h
 ·unfold dj
  rw [List.any_toArray,sT,mW,mW]
  constructor
  ·rintro⟨y,_,hy⟩
   obtain⟨i,hi,_,q⟩:=@of_decide_eq_true _ (Classical.propDecidable _) hy
   rw [eF,cV (show i<ds.length by omega)] at q
   exact⟨_,gR (show i<ds.length by omega),q⟩
  ·rintro⟨d',hd',q⟩
   obtain⟨i,hi,rfl⟩:=yaV.mp hd'
   refine⟨us[i],gR (show i<us.length by omega),@decide_eq_true _ (Classical.propDecidable _) ⟨i,by omega,?_,?_⟩⟩
   ·rw [eF,cV (show i<us.length by omega)];rfl
   ·rw [eF,cV hi];exact q
theorem qQO (n:Bool) (hu:X.A.units+20<cLine):OpR X (compareOp (if n then .NotIn else .In)) (λx y H Q=>∃(d:D) (ds:List D) (F:Fz) (p:Addr) (vs:List V),RP X.K H F d x/\y=.ref p/\(SqL X.K H p vs∨SqT X.K H p vs)/\RDs X.K H F ds vs/\bI 19 d=true/\br d=true/\bT ds=true/\Q (.bl (if n then !(dj ds d) else dj ds d)) H):=by
 intro pins s Z H x y v u Q I rx ry h
 obtain⟨d,ds,F,p,vs,hx,rfl,hp,hr,hs,n1,n2,q⟩:=h
 cases ry
 rcases hp with hp|hp
 ·obtain⟨its,rv,ht,_⟩:=I.list hp
  obtain⟨e,he,ea,_⟩:=zp I hu hx rx hr rv hs n1 n2
  cases n with
  | false=>exact SeqAt.in_listAt e ht.isList he ⟨.bl _,H,I,by rw [ea];rfl,q⟩
  | true=>exact SeqAt.notIn_listAt e ht.isList he ⟨.bl _,H,I,by rw [ea];rfl,q⟩
 ·obtain⟨its,rv,ht,_⟩:=I.tuple hp
  obtain⟨e,he,ea,_⟩:=zp I hu hx rx hr rv hs n1 n2
  cases n with
  | false=>exact SeqAt.in_tupleAt e ht he ⟨.bl _,H,I,by rw [ea];rfl,q⟩
  | true=>exact SeqAt.notIn_tupleAt e ht he ⟨.bl _,H,I,by rw [ea];rfl,q⟩
end
end Dw
namespace Dw
open PySem PySem.Spec PyProof.Rows L2
def RG (K:Qb) (H:Hp) (F:Fz) (d:D) (v:V):Prop:=RD K H F d v∨∃a ks,d=.dct false ks/\v=.ref a/\¬F a/\H a=some (.dK (dk ks))
def RGs (K:Qb) (H:Hp) (F:Fz):List D->List V->Prop
 | [],vs=>vs=[]
 | d::ds,vs=>∃v r,vs=v::r/\RG K H F d v/\RGs K H F ds r
theorem RG.grow {K:Qb}{H H1:Hp}{F F1:Fz}(g:Gr H F H1 F1) {d:D}{v:V}(h:RG K H F d v):RG K H1 F1 d v:=
 h.elim (λz=>.inl (RD.mono g.keep z)) λ⟨a,ks,e1,e2,e3,e4⟩=>.inr ⟨a,ks,e1,e2,(λz=>(g.new a z).elim e3 λz=>Qn (e4.symm.trans z) (by simp)),g.same _ _ e4⟩
theorem RGs.of {K:Qb}{H:Hp}{F:Fz}:∀{ds:List D}{vs:List V},RDs K H F ds vs->RGs K H F ds vs
 | [],_,h=>h
 | _::_,_,⟨v,r,e,h1,h2⟩=>⟨v,r,e,.inl h1,RGs.of h2⟩
theorem RGs.length {K:Qb}{H:Hp}{F:Fz}:∀{ds:List D}{vs:List V},RGs K H F ds vs->vs.length=ds.length
 | [],_,h=>by rw [show _=[] from h];rfl
 | _::_,_,⟨v,r,e,h1,h2⟩=>by rw [e,fW,fW,RGs.length h2]
theorem RGs.get {K:Qb}{H:Hp}{F:Fz}:∀{ds:List D}{vs:List V}{i:Nat}{d:D},RGs K H F ds vs->ds[i]?=some d->∃v,vs[i]?=some v/\RG K H F d v
 | [],_,_,_,_,e=>by simp at e
 | x::ds,_,i,d,⟨v,r,e1,h1,h2⟩,e=>by
  subst e1
  cases i with
  | zero=>simp at e;subst e;exact⟨v,rfl,h1⟩
  | succ i=>simp at e;obtain⟨w,q1,q2⟩:=RGs.get h2 e;exact⟨w,by simpa using q1,q2⟩
noncomputable def dh (K:Qb) (n:Nat) (f:List D->Option R):Sp:=λvs H Q _=>vs.length=n/\∃(F:Fz) (ds:List D) (r:R),(∀a,H a=none->¬F a)/\RGs K H F ds vs/\f ds=some r /\
 ∀v H' F',Gr H F H' F'->RR K H H' F' r v->Q v H'
def del (H:Hp) (a:Addr):Hp:=λb=>if b=a then none else H b
def spH (K:Qb) (n:Nat) (f:List D->Option R):Sp:=λvs H Q _=>vs.length=n/\∃(F:Fz) (a:Addr) (xs ds ys:List D) (ws us:List V) (b:Bool),vs=.ref a::us/\(∀a,H a=none->¬F a)/\H a=some (.lst ws)/\¬F a/\RDs K H F xs ws/\RDs K H F ds us/\f (.lst xs::ds)=some (b,.lst ys) /\
 ∀H' F' zs,Gr (del H a) F H' F'->H' a=some (.lst zs)->¬F' a->RDs K H' F' ys zs->Q .non H'
structure Dfh (call:Nat->List D->Option R) (k:Nat) (X:Cx) (f:Str) (i:Nat):Prop where
 ex:∃(a:Addr) (fd:FuncData) (ps:List Str),X.mg f=some (.ref a)/\PySem.W.keepIn X.K (.ref a)=true/\Binds X.K fd ps []/\FnOk X.prog X.w X.K X.mg X.base fg k a fd ps (spH X.K ps.length (call (i+HX)))/\∀ds r,call (i+HX) ds=some r->ds.length=ps.length
structure Dfn (call:Nat->List D->Option R) (k:Nat) (X:Cx) (f:Str) (i:Nat):Prop where
 ex:∃(a:Addr) (fd:FuncData) (ps:List Str),X.mg f=some (.ref a)/\PySem.W.keepIn X.K (.ref a)=true/\Binds X.K fd ps []/\FnOk X.prog X.w X.K X.mg X.base fg k a fd ps (dh X.K ps.length (call i))/\∀ds r,call i ds=some r->ds.length=ps.length
def kV:D->V
 | .int i=>.int i
 | .bl b=>.bl b
 | .str x=>.str x
 | _=>.non
noncomputable def isK:D->Bool
 | .tup _=>false
 | .lst _=>false
 | .dct _ _=>false
 | .obj _ _=>false
 | _=>true
def arV (vs zs:List V):Ar->V
 | .pos i=>vs.getD i .non
 | .kw i=>zs.getD i .non
 | .dft _ d=>kV d
structure Dfu (call:Nat->List D->Option R) (k:Nat) (X:Cx) (u:Uc):Prop where
 ex:∃(a:Addr) (fd:FuncData) (ps:List Str) (g:List Value->List Value->List Value) (gV:List V->List V->List V),X.mg u.f=some (.ref a)/\PySem.W.keepIn X.K (.ref a)=true/\KBinds X.K fd ps u.ks g gV/\(∀vs zs,vs.length=u.np->zs.length=u.ks.length->gV vs zs=u.pl.map (arV vs zs)) /\
  (∀j d,Ar.dft j d∈u.pl->isK d=true)/\FnOk X.prog X.w X.K X.mg X.base fg k a fd ps (dh X.K ps.length (call u.i))/\∀ds r,call u.i ds=some r->ds.length=ps.length
def jf:List Str->List V->List (Str×V)->List (Str×V)
 | f::ns,v::vs,fs=>jf ns vs (cY f v fs)
 | _,_,fs=>fs
def tI (K:Qb) (ns:List Str):Sp:=λvs H Q _=>∃(x C dx:Addr) (ws:List V),vs=.ref x::ws/\ws.length=ns.length/\H x=some (.ins C dx [])/\Cls K C/\(∀f∈ns,NoAttr K C f)/\Q .non (aA H x (.ins C dx (jf ns ws [])))
structure Mk0 (K:Qb) (C:Addr):Prop where
 makes:PySem.W.makesIn K C=true
 init:PySem.W.findIn K (.ref C) "__init__"=some (some (.builtin "object.__init__"))
 kp:PySem.W.keepIn K (.ref C)=true
def Ini (X:Cx) (C:Addr) (ns:List Str):Prop:=(∃(fi:Addr) (fdi:FuncData) (psi:List Str),Mk X.K C fi/\Binds X.K fdi psi []/\FnOk X.prog X.w X.K X.mg X.base fg 1 fi fdi psi (tI X.K ns))∨(ns=[]/\Mk0 X.K C)
structure Dfm (call:Nat->List D->Option R) (k:Nat) (X:Cx) (ns:List Str) (c m:Str) (i:Nat) (C:Addr):Prop where
 ex:∃(fm:Addr) (fdm:FuncData) (psm:List Str),X.mg c=some (.ref C)/\Ini X C ns/\Cls X.K C/\(∀f∈ns,NoAttr X.K C f)/\Meth X.K C m fm/\Binds X.K fdm psm [] /\
  FnOk X.prog X.w X.K X.mg X.base fg k fm fdm psm (dh X.K psm.length (call i))/\(∀ds r,call i ds=some r->ds.length=psm.length)/\m∉ns/\ns.Nodup
noncomputable def du:List Str:=["len","abs","min","max","sum","all","tuple","list","int","bool","str","isinstance","range","zip","reversed","sorted","enumerate","any"].map Qa
structure XG (call:Nat->List D->Option R) (G:Gx) (k:Nat) (X:Cx) (sc:Scope) (N:List Str):Prop where
 hN:X.N=N
 nd:N.Nodup
 vis:∀x,ly sc x=true->mL X.env.scope x
 loc:∀x,(sc.names.lookup x == some .local||sc.names.lookup x == some .cell)=true->mN X.env.scope x/\(X.fn x=true∨X.env.scope.names.lookup x=some .local)
 gl:∀x,bD sc x=true->Gl X x
 cap:∀x,lh sc x=true->X.env.kindOf x=some .cell∨X.env.kindOf x=some .free
 calm:X.calm=true
 xe:X.xe=λ_ _=>False
 room:Room k X.A
 defs:∀f i,G.defs.lookup f=some i->Dfn call k X f i
 blt:∀x,G.defs.lookup x=none->x∈du->X.mg x=none
 cons:∀x i,G.cons.lookup x=some i->∃t,X.mg x=some (.int i t)
 meth:∀u∈G.meth,Dfm call k X u.kn.ns u.c u.m u.i u.kn.c
 two:G.meth≠[]->2<=k
section
variable {call:Nat->List D->Option R}{G:Gx}{k:Nat}{X:Cx}{sc:Scope}{N:List Str}
variable (call X) in
def SndE (e:Expr) (c:C):Prop:=∃t:TE,PE X e t/\∀(Ge:Gp) (H:Hp) (F:Fz) (Z:En) (τ:L2.St) (r:R) (Q:VK),aa call Z c=some r->SR X.K Ge H F Z τ->(∀v H' F',Gr H F H' F'->RR X.K H H' F' r v->Q v H')->t τ H Q
variable (call X) in
def dO (e:Expr) (c:C):Prop:=∃t:TE,PE X e t/\∀(Ge:Gp) (H:Hp) (F:Fz) (Z:En) (τ:L2.St) (d:D) (Q:VK),pk Z c (aa call Z c)=some d->SR X.K Ge H F Z τ->(∀v H' F',Gr H F H' F'->RP X.K H' F' d v->Q v H')->t τ H Q
variable (call X) in
def dS (e:Expr) (c:C):Prop:=∃t:TT,PT X e t/\∀(Ge:Gp) (H:Hp) (F:Fz) (Z:En) (τ:L2.St) (x b:Bool) (Q:Bool->Hp->Prop),aa call Z c=some (x,.bl b)->SR X.K Ge H F Z τ->(∀H' F',Gr H F H' F'->Q b H')->t τ H Q
variable (call X) in
def iF (es:List Expr) (cs:List C):Prop:=∃t:TA,PA X es t/\∀(Ge:Gp) (H:Hp) (F:Fz) (Z:En) (τ:L2.St) (ds:List D) (Q:List V->Hp->Prop),bO call Z cs=some ds->SR X.K Ge H F Z τ->(∀vs H' F',Gr H F H' F'->RDs X.K H' F' ds vs->Q vs H')->t τ H Q
def RPs (K:Qb) (H:Hp) (F:Fz):List D->List V->Prop
 | [],vs=>vs=[]
 | d::ds,vs=>∃v r,vs=v::r/\RP K H F d v/\RPs K H F ds r
variable (call X) in
def iL (es:List Expr) (cs:List C):Prop:=∃t:TA,PA X es t/\∀(Ge:Gp) (H:Hp) (F:Fz) (Z:En) (τ:L2.St) (ds:List D) (Q:List V->Hp->Prop),bG call Z cs=some ds->SR X.K Ge H F Z τ->(∀vs H' F',Gr H F H' F'->RPs X.K H' F' ds vs->Q vs H')->t τ H Q
variable (call X) in
def qG (e:Expr) (c:C):Prop:=∃t:TE,PE X e t/\∀(Ge:Gp) (H:Hp) (F:Fz) (Z:En) (τ:L2.St) (d:D) (Q:VK),ag Z c (aa call Z c)=some d->SR X.K Ge H F Z τ->(∀v H' F',Gr H F H' F'->RG X.K H' F' d v->Q v H')->t τ H Q
variable (call X) in
def nq (es:List Expr) (cs:List C):Prop:=∃t:TA,PA X es t/\∀(Ge:Gp) (H:Hp) (F:Fz) (Z:En) (τ:L2.St) (ds:List D) (Q:List V->Hp->Prop),gi call Z cs=some ds->SR X.K Ge H F Z τ->(∀vs H' F',Gr H F H' F'->RGs X.K H' F' ds vs->Q vs H')->t τ H Q
variable (call X) in
def nc (e:Option Expr) (c:Option C):Prop:=∃t:TO,PO X e t/\∀(Ge:Gp) (H:Hp) (F:Fz) (Z:En) (τ:L2.St) (o:Option Int) (Q:Option Int->Hp->Prop),gh call Z c=some o->SR X.K Ge H F Z τ->(∀H' F',Gr H F H' F'->Q o H')->t τ H Q
theorem SndE.look (h:SndE call X e c) (hc:∀i,c≠.v i):dO call X e c:=by
 obtain⟨t,p,q⟩:=h
 refine⟨t,p,λGe H F Z τ d Q hd hs k=>?_⟩
 have hd':(aa call Z c).map (·.2)=some d:=by
  cases c with
  | v i=>exact Qn rfl (hc i)
  | _=>exact hd
 cases hr:aa call Z c with
 | none=>rw [hr] at hd';cases hd'
 | some r =>
  rw [hr] at hd'
  cases hd'
  exact q Ge H F Z τ r Q hr hs λv H' F' g z=>k v H' F' g z.look
theorem SndE.lend (h:SndE call X e c) (hc:∀i,c≠.v i):qG call X e c:=by
 obtain⟨t,p,q⟩:=h
 refine⟨t,p,λGe H F Z τ d Q hd hs k=>?_⟩
 have hd':(aa call Z c).map (·.2)=some d:=by
  cases c with
  | v i=>exact Qn rfl (hc i)
  | _=>exact hd
 cases hr:aa call Z c with
 | none=>rw [hr] at hd';cases hd'
 | some r =>
  rw [hr] at hd'
  cases hd'
  refine q Ge H F Z τ r Q hr hs λv H' F' g z=>?_
  obtain⟨F2,g2,rd⟩:=z.fz g
  exact k v H' F2 g2 (.inl rd)
theorem ig (h:cz N x=some i):N[i]?=some x:=by
 unfold cz at h
 obtain⟨h1,h2,_⟩:=List.findIdx?_eq_some_iff_getElem.mp h
 rw [cV h1]
 simpa using h2
theorem jv (g:XG call G k X sc N) (h:df sc N x=some i):X.N[i]?=some x/\mL X.env.scope x/\(x == ("__debug__":Str))=false/\(x == ("__classdict__":Str))=false:=by
 unfold df at h
 split at h
 ·rename_i hv
  rw [aY] at hv
  have hp:=hv.2
  unfold fN at hp
  simp only [aY,bne_iff_ne,ne_eq] at hp
  refine⟨by rw [g.hN];exact ig h,g.vis x hv.1,?_,?_⟩
  ·exact beq_eq_false_iff_ne.mpr hp.1.1
  ·exact beq_eq_false_iff_ne.mpr hp.1.2
 ·cases h
theorem qKr (g:XG call G k X sc N) (h:df sc N x=some i):SndE call X (.Name x pos) (.v i)/\dO call X (.Name x pos) (.v i)/\qG call X (.Name x pos) (.v i):=by
 obtain⟨h1,h2,h3,h4⟩:=jv g h
 refine⟨?_,?_,?_⟩
 ·refine⟨_,ia h1 h2 h3 h4,λGe H F Z τ r Q hr hs k=>?_⟩
  change jk (ax Z i)=some r at hr
  cases hv:ax Z i with
  | none=>rw [hv] at hr;cases hr
  | some z =>
   obtain⟨b,d⟩:=z
   rw [hv] at hr
   cases b with
   | true=>cases hr
   | false =>
    cases hr
    obtain⟨v,e,rd⟩:=hs.val i d hv
    exact⟨v,e,k v H F (Gr.refl hs.dom) rd⟩
 ·refine⟨_,ia h1 h2 h3 h4,λGe H F Z τ d Q hr hs k=>?_⟩
  change (ax Z i).bind cj=some d at hr
  cases hv:ax Z i with
  | none=>rw [hv] at hr;cases hr
  | some z =>
   obtain⟨b,d'⟩:=z
   rw [hv] at hr
   cases b with
   | false =>
    cases hr
    obtain⟨v,e,rd⟩:=hs.val i _ hv
    exact⟨v,e,k v H F (Gr.refl hs.dom) (.inl rd)⟩
   | true =>
    cases d' with
    | lst ds' =>
     cases hr
     obtain⟨a,ds,vs,e1,e2,e3,e4,e5,e6⟩:=hs.own i _ hv rfl
     exact⟨.ref a,e2,k _ H F (Gr.refl hs.dom) (.inr ⟨a,ds,vs,e1,rfl,e5,e6⟩)⟩
    | _=>cases hr
 ·refine⟨_,ia h1 h2 h3 h4,λGe H F Z τ d Q hr hs k=>?_⟩
  change (ax Z i).bind ei=some d at hr
  cases hv:ax Z i with
  | none=>rw [hv] at hr;cases hr
  | some z =>
   obtain⟨b,d'⟩:=z
   rw [hv] at hr
   cases b with
   | false =>
    cases hr
    obtain⟨v,e,rd⟩:=hs.val i _ hv
    exact⟨v,e,k v H F (Gr.refl hs.dom) (.inl rd)⟩
   | true =>
    cases d' with
    | dct m ks =>
     cases hr
     obtain⟨a,e1,e2,e3,e4⟩:=hs.dct i m ks hv
     exact⟨.ref a,e1,k _ H F (Gr.refl hs.dom) (.inr ⟨a,ks,rfl,rfl,e2,e3⟩)⟩
    | _=>cases hr
theorem C5 (h:rT c=some d):SndE call X (.Constant c j pos) (.k d):=by
 cases c with
 | int i=>cases h;exact⟨_,Am,λGe H F Z τ r Q hr hs k=>by cases hr;exact k _ H F (Gr.refl hs.dom) rfl⟩
 | bool i=>cases h;exact⟨_,qTj,λGe H F Z τ r Q hr hs k=>by cases hr;exact k _ H F (Gr.refl hs.dom) rfl⟩
 | str x=>cases h;exact⟨_,qQw,λGe H F Z τ r Q hr hs k=>by cases hr;exact k _ H F (Gr.refl hs.dom) rfl⟩
 | none=>cases h;exact⟨_,qQz,λGe H F Z τ r Q hr hs k=>by cases hr;exact k _ H F (Gr.refl hs.dom) rfl⟩
 | _=>cases h
theorem qP7 (g:XG call G k X sc N) (h:kK G sc x=some c):SndE call X (.Name x pos) c/\∀i,c≠.v i:=by
 unfold kK at h
 split at h
 ·rename_i hb
  rw [aY] at hb
  cases hc:G.cons.lookup x with
  | none=>rw [hc] at h;cases h
  | some i =>
   rw [hc] at h
   cases h
   obtain⟨t,ht⟩:=g.cons x i hc
   have hd:(x == ("__debug__":Str))=false:=by
    have:=hb.2
    unfold fN at this
    simp only [aY,bne_iff_ne,ne_eq] at this
    simpa using this.1.1
   exact⟨⟨_,qN8 (v:=.int i) (g.gl x hb.1) ht ⟨t,rfl⟩ hd,λGe H F Z τ r Q hr hs k=>by cases hr;exact k _ H F (Gr.refl hs.dom) rfl⟩,λi z=>nomatch z⟩
 ·cases h
def dP (X:Cx) (f:Value->Value->Sem Value) (b:D->D->Option R):Prop:=
 ∃r:R2,OpR X f r/\∀(H:Hp) (F:Fz) (d e:D) (x y:V) (z:R) (Q:VK),b d e=some z->(∀a,H a=none->¬F a)->RP X.K H F d x->RP X.K H F e y->(∀v H' F',Gr H F H' F'->RR X.K H H' F' z v->Q v H')->r x y H Q
theorem qB {α β γ:Type}{a:Option α}{b:Option β}{f:α->β->Option γ}{z:γ}(h:(a.bind λx=>b.bind λy=>f x y)=some z):∃x y,a=some x/\b=some y/\f x y=some z:=by
 cases a with
 | none=>cases h
 | some x =>
  cases b with
  | none=>cases h
  | some y=>exact⟨x,y,rfl,rfl,h⟩
theorem ak {α γ:Type}{a:Option α}{f:α->Option γ}{z:γ}(h:a.bind f=some z):∃x,a=some x/\f x=some z:=by
 cases a with
 | none=>cases h
 | some x=>exact⟨x,rfl,h⟩
theorem lD {a b:Expr}{ca cb:C}{ta tb:TE}{Ge:Gp}{H:Hp}{F:Fz}{Z:En}{τ:L2.St}{x y:D}{R':V->V->Hp->Prop}
  (qa:∀(Ge:Gp) (H:Hp) (F:Fz) (Z:En) (τ:L2.St) (d:D) (Q:VK),pk Z ca (aa call Z ca)=some d->SR X.K Ge H F Z τ->(∀v H' F',Gr H F H' F'->RP X.K H' F' d v->Q v H')->ta τ H Q)
  (qb:∀(Ge:Gp) (H:Hp) (F:Fz) (Z:En) (τ:L2.St) (d:D) (Q:VK),pk Z cb (aa call Z cb)=some d->SR X.K Ge H F Z τ->(∀v H' F',Gr H F H' F'->RP X.K H' F' d v->Q v H')->tb τ H Q)
  (ex:pk Z ca (aa call Z ca)=some x) (ey:pk Z cb (aa call Z cb)=some y) (hs:SR X.K Ge H F Z τ)
  (h:∀v w H2 F2,Gr H F H2 F2->RP X.K H2 F2 x v->RP X.K H2 F2 y w->R' v w H2):ta τ H λv H1=>tb τ H1 λw H2=>R' v w H2:=by
 refine qa Ge H F Z τ x _ ex hs λv H1 F1 g1 r1=>?_
 refine qb Ge H1 F1 Z τ y _ ey (hs.grow g1) λw H2 F2 g2 r2=>?_
 exact h v w H2 F2 (g1.trans g2) (r1.grow g2) r2
theorem qNK {a b:Expr}{ca cb:C}{op:Operator}{o:BOp}{pos:Pos}(ho:dP X (binaryOp op) (eH o)) (ha:dO call X a ca) (hb:dO call X b cb):SndE call X (.BinOp a op b pos) (.bin o ca cb):=by
 obtain⟨r,hr,hq⟩:=ho
 obtain⟨ta,pa,qa⟩:=ha
 obtain⟨tb,pb,qb⟩:=hb
 refine⟨_,qTi hr pa pb,λGe H F Z τ z Q hz hs k=>?_⟩
 obtain⟨x,y,ex,ey,ez⟩:=qB (by simpa only [BK] using hz)
 refine lD (a:=a) (b:=b) qa qb ex ey hs λv w H2 F2 g rx ry=>?_
 exact hq H2 F2 x y v w z Q ez g.dom rx ry λu H' F' g' rr=>k u H' F' (g.trans g') (rr.back g.same)
theorem qNJ {a b:Expr}{ca cb:C}{op:CmpOp}{o:COp}{pos:Pos}(ho:dP X (compareOp op) (eI o)) (hm:behindInMarks op b=false) (hb2:∀x y z,eI o x y=some z->∃c,z=(false,.bl c)) (ha:dO call X a ca) (hb:dO call X b cb) :
  SndE call X (.Compare a [op] [b] pos) (.cmp o ca cb)/\dS call X (.Compare a [op] [b] pos) (.cmp o ca cb):=by
 obtain⟨r,hr,hq⟩:=ho
 obtain⟨ta,pa,qa⟩:=ha
 obtain⟨tb,pb,qb⟩:=hb
 constructor
 ·refine⟨_,Bm hr pa pb hm,λGe H F Z τ z Q hz hs k=>?_⟩
  obtain⟨x,y,ex,ey,ez⟩:=qB (by simpa only [uX] using hz)
  refine lD (a:=a) (b:=b) qa qb ex ey hs λv w H2 F2 g rx ry=>?_
  exact hq H2 F2 x y v w z Q ez g.dom rx ry λu H' F' g' rr=>k u H' F' (g.trans g') (rr.back g.same)
 ·refine⟨_,B5 hr pa pb hm,λGe H F Z τ xx bb Q hz hs k=>?_⟩
  obtain⟨x,y,ex,ey,ez⟩:=qB (by simpa only [uX] using hz)
  refine lD (a:=a) (b:=b) qa qb ex ey hs λv w H2 F2 g rx ry=>?_
  obtain⟨c,ec⟩:=hb2 _ _ _ ez
  cases ec
  exact hq H2 F2 x y v w _ _ ez g.dom rx ry λu H' F' g' rr=>⟨bb,rr,k H' F' (g.trans g')⟩
theorem gE {K:Qb}{H:Hp}{F:Fz}{ds:List D}{vs:List V}{p:Addr}(dom:∀a,H a=none->¬F a) (hp:H p=none) (h:RDs K H F ds vs) :
  Gr H F (aA H p (.lst vs)) F/\RR K H (aA H p (.lst vs)) F (true,.lst ds) (.ref p):=by
 have g:Gr H F (aA H p (.lst vs)) F:=Gr.laid dom hp
 exact⟨g,p,ds,vs,rfl,rfl,hp,dom p hp,ef,RDs.mono g.keep h⟩
theorem lY {K:Qb}{H:Hp}{F:Fz}{ds:List D}{vs:List V}{p:Addr}(dom:∀a,H a=none->¬F a) (hp:H p=none) (h:RDs K H F ds vs) :
  Gr H F (aA H p (.tup vs)) F/\RR K H (aA H p (.tup vs)) F (false,.tup ds) (.ref p):=by
 have g:Gr H F (aA H p (.tup vs)) F:=Gr.laid dom hp
 exact⟨g,p,vs,rfl,SqT.of ef,RDs.mono g.keep h⟩
theorem jB {Cc:Int->Int->Prop}{gg:Int->Int->V}{kk:Int->Int->D}(h:OpR X f (rI Cc gg))
  (hb:∀d e z,b d e=some z->∃i j,d=.int i/\e=.int j/\Cc i j/\z=(false,kk i j)) (hk:∀(H:Hp) (F:Fz) i j,RD X.K H F (kk i j) (gg i j)):dP X f b:=by
 refine⟨_,h,λH F d e x y z Q hz dom hx hy k=>?_⟩
 obtain⟨i,j,rfl,rfl,hc,rfl⟩:=hb d e z hz
 exact⟨i,j,hx.int,hy.int,hc,k _ H F (Gr.refl dom) (hk H F i j)⟩
theorem n6 {gg:Int->Int->V}{kk:Int->Int->D}(h:OpR X f (iB gg))
  (hb:∀d e z,b d e=some z->∃i j,d=.int i/\e=.int j/\z=(false,kk i j)) (hk:∀(H:Hp) (F:Fz) i j,RD X.K H F (kk i j) (gg i j)):dP X f b:=by
 refine⟨_,h,λH F d e x y z Q hz dom hx hy k=>?_⟩
 obtain⟨i,j,rfl,rfl,rfl⟩:=hb d e z hz
 exact⟨i,j,hx.int,hy.int,k _ H F (Gr.refl dom) (hk H F i j)⟩
theorem cA [Decidable c] (h:(if c then some a else none)=some b):c/\a=b:=by
 by_cases hc:c
 ·rw [Ql hc] at h;exact⟨hc,fU h⟩
 ·rw [Qm hc] at h;cases h
theorem qOb:dP X (binaryOp .Sub) (eH .sub):=n6 (kk:=λi j=>.int (i - j)) qQJ (λd e z h=>by
 cases d<;>first|(cases h;done)|(cases e<;>first|(cases h;exact⟨_,_,rfl,rfl,rfl⟩)|cases h)) λ_ _ _ _=>rfl
theorem qKS:dP X (binaryOp .FloorDiv) (eH .fdiv):=jB (kk:=λi j=>.int (i.fdiv j)) qKV (λd e z h=>by
 cases d<;>first|(cases h;done)|(cases e<;>first|(obtain⟨h1,rfl⟩:=cA h;exact⟨_,_,rfl,rfl,h1,rfl⟩)|cases h)) λ_ _ _ _=>rfl
theorem qOg:dP X (binaryOp .Mod) (eH .mod):=jB (kk:=λi j=>.int (i.fmod j)) qOl (λd e z h=>by
 cases d<;>first|(cases h;done)|(cases e<;>first|(obtain⟨h1,rfl⟩:=cA h;exact⟨_,_,rfl,rfl,h1,rfl⟩)|cases h)) λ_ _ _ _=>rfl
theorem qOe:dP X (binaryOp .Pow) (eH .pow):=jB (kk:=λi j=>.int (i^j.toNat)) qOk (λd e z h=>by
 cases d<;>first|(cases h;done)|(cases e<;>first|(obtain⟨h1,rfl⟩:=cA h;exact⟨_,_,rfl,rfl,h1,rfl⟩)|cases h)) λ_ _ _ _=>rfl
theorem qOd:dP X (binaryOp .LShift) (eH .shl):=jB (kk:=λi j=>.int (i * 2^j.toNat)) qQL (λd e z h=>by
 cases d<;>first|(cases h;done)|(cases e<;>first|(obtain⟨h1,rfl⟩:=cA h;have h2:=Qp h1;exact⟨_,_,rfl,rfl,⟨h2.1,by omega,h2.2.2⟩,rfl⟩)|cases h)) λ_ _ _ _=>rfl
theorem qOc:dP X (binaryOp .RShift) (eH .shr):=jB (kk:=λi j=>.int (i / 2^j.toNat)) qQK (λd e z h=>by
 cases d<;>first|(cases h;done)|(cases e<;>first|(obtain⟨h1,rfl⟩:=cA h;exact⟨_,_,rfl,rfl,h1,rfl⟩)|cases h)) λ_ _ _ _=>rfl
theorem Be (h1:0<=x) (h2:0<=y):Builtin.bitAnd x y=((x.toNat &&& y.toNat:Nat):Int):=by
 unfold Builtin.bitAnd;rw [Qk h1,Qk h2]
theorem Ax (h1:0<=x) (h2:0<=y):Builtin.bitOr x y=((x.toNat ||| y.toNat:Nat):Int):=by
 have n:∀z:Int,Builtin.bitNot z=-z - 1:=λz=>by simp only [Builtin.bitNot]<;>omega
 unfold Builtin.bitOr Builtin.bitAnd
 rw [Qj (show ¬0<=Builtin.bitNot x by rw [n];omega),Qj (show ¬0<=Builtin.bitNot y by rw [n];omega)]
 simp only
 rw [n,n,n,n,n,n]
 rw [show -(-x - 1) - 1=x by omega,show -(-y - 1) - 1=y by omega]
 omega
theorem qKX:OpR X (binaryOp .BitAnd) (rI (λi j=>0<=i/\0<=j) λi j=>.int ((i.toNat &&& j.toNat:Nat):Int)):=iT λi j _ _ _ _ _ hc q=>and_int (by rw [Be hc.1 hc.2];exact q)
theorem qOn:OpR X (binaryOp .BitOr) (rI (λi j=>0<=i/\0<=j) λi j=>.int ((i.toNat ||| j.toNat:Nat):Int)):=iT λi j _ _ _ _ _ hc q=>or_int (by rw [Ax hc.1 hc.2];exact q)
theorem qKU:dP X (binaryOp .BitAnd) (eH .band):=jB (kk:=λi j=>.int ((i.toNat &&& j.toNat:Nat):Int)) qKX (λd e z h=>by
 cases d<;>first|(cases h;done)|(cases e<;>first|(obtain⟨h1,rfl⟩:=cA h;exact⟨_,_,rfl,rfl,h1,rfl⟩)|cases h)) λ_ _ _ _=>rfl
theorem qOh:dP X (binaryOp .BitOr) (eH .bor):=jB (kk:=λi j=>.int ((i.toNat ||| j.toNat:Nat):Int)) qOn (λd e z h=>by
 cases d<;>first|(cases h;done)|(cases e<;>first|(obtain⟨h1,rfl⟩:=cA h;exact⟨_,_,rfl,rfl,h1,rfl⟩)|cases h)) λ_ _ _ _=>rfl
theorem qKW:OpR X (binaryOp .BitXor) (rI (λi j=>0<=i/\0<=j) λi j=>.int (((i.toNat ||| j.toNat:Nat):Int) - ((i.toNat &&& j.toNat:Nat):Int))):=iT λi j _ _ _ _ _ hc q=>xor_int (by unfold Builtin.bitXor;rw [Ax hc.1 hc.2,Be hc.1 hc.2];exact q)
theorem qKT:dP X (binaryOp .BitXor) (eH .bxor):=jB (kk:=λi j=>.int (((i.toNat ||| j.toNat:Nat):Int) - ((i.toNat &&& j.toNat:Nat):Int))) qKW (λd e z h=>by
 cases d<;>first|(cases h;done)|(cases e<;>first|(obtain⟨h1,rfl⟩:=cA h;exact⟨_,_,rfl,rfl,h1,rfl⟩)|cases h)) λ_ _ _ _=>rfl
theorem qOf:dP X (binaryOp .Mult) (eH .mul):=by
 refine⟨_,op_mulD.or qOj,λH F d e x y z Q hz dom hx hy k=>?_⟩
 cases d with
 | int i =>
  cases e with
  | int j=>obtain⟨h1,rfl⟩:=cA hz;exact .inl ⟨i,j,hx.int,hy.int,h1,k _ H F (Gr.refl dom) rfl⟩
  | _=>cases hz
 | lst xs =>
  cases e with
  | int j =>
   obtain⟨⟨h1,h2,h3⟩,rfl⟩:=cA hz
   obtain⟨a,vs,rfl,hl,hr⟩:=hx.lst
   refine .inr ⟨a,j,vs,rfl,hy.int,hl,by omega,by omega,by rw [RDs.length hr];exact h1,λp hp=>?_⟩
   obtain⟨g,rr⟩:=gE dom hp (RDs.rep hr j.toNat)
   exact k _ _ _ g rr
  | _=>cases hz
 | _=>cases e<;>cases hz
theorem qOi:dP X (binaryOp .Add) (eH .add):=by
 refine⟨_,(op_add.or (op_catD.or qOm)).or (op_catN.or qGV),λH F d e x y z Q hz dom hx hy k=>?_⟩
 cases d with
 | int i =>
  cases e with
  | int j=>cases hz;exact .inl (.inl ⟨i,j,hx.int,hy.int,k _ H F (Gr.refl dom) rfl⟩)
  | _=>cases hz
 | str xs =>
  cases e with
  | str ys =>
   obtain⟨h1,rfl⟩:=cA hz
   exact .inr (.inr ⟨xs,ys,hx.str,hy.str,h1,k _ H F (Gr.refl dom) rfl⟩)
  | _=>cases hz
 | lst xs =>
  cases e with
  | lst ys =>
   obtain⟨h1,rfl⟩:=cA hz
   obtain⟨a,vs,rfl,hl,hr⟩:=hx.lst
   obtain⟨a2,vs2,rfl,hl2,hr2⟩:=hy.lst
   refine .inl (.inr (.inl ⟨a,a2,vs,vs2,rfl,rfl,hl,hl2,by rw [RDs.length hr,RDs.length hr2];exact h1,λp hp=>?_⟩))
   obtain⟨g,rr⟩:=gE dom hp (RDs.append hr hr2)
   exact k _ _ _ g rr
  | _=>cases hz
 | tup xs =>
  cases e with
  | tup ys =>
   cases xs with
   | nil =>
    cases hz
    obtain⟨a,vs,rfl,hl,hr⟩:=hx.tup
    obtain⟨a2,vs2,rfl,hl2,hr2⟩:=hy.tup
    have hr:vs=[]:=hr
    subst hr
    exact .inr (.inl ⟨a,a2,vs2,rfl,rfl,hl,hl2,k _ H F (Gr.refl dom) ⟨a2,vs2,rfl,hl2,hr2⟩⟩)
   | cons x0 xs =>
    obtain⟨h1,rfl⟩:=cA hz
    obtain⟨a,vs,rfl,hl,hr⟩:=hx.tup
    obtain⟨a2,vs2,rfl,hl2,hr2⟩:=hy.tup
    have hv:vs≠[]:=λz=>by have:=RDs.length hr;rw [z] at this;cases this
    refine .inl (.inr (.inr ⟨a,a2,vs,vs2,rfl,rfl,hl,hl2,hv,by rw [RDs.length hr,RDs.length hr2];exact h1,λz=>?_,λ_ p hp=>?_⟩))
    ·subst z
     have e0:ys=[]:=by have:=RDs.length hr2;exact yaG.mp this.symm
     subst e0
     rw [i7] at k
     exact k _ H F (Gr.refl dom) ⟨a,vs,rfl,hl,hr⟩
    ·obtain⟨g,rr⟩:=lY dom hp (RDs.append hr hr2)
     exact k _ _ _ g rr
  | _=>cases xs<;>cases hz
 | _=>cases e<;>cases hz
theorem qQI (h:zw op=some o):dP X (binaryOp op) (eH o):=by
 cases op<;>first|(cases h;first|exact qOi|exact qOb|exact qOf|exact qKS|exact qOg|exact qOe|exact qOd|exact qOc|exact qKU|exact qOh|exact qKT)|cases h
theorem Ak (n:Bool) (hu:X.A.units+20<cLine):dP X (compareOp (if n then .NotIn else .In)) (rV n):=by
 refine⟨_,qQO n hu,λH F d e x y z Q hz dom hx hy k=>?_⟩
 cases e with
 | tup ys =>
  obtain⟨a,vs,rfl,hl,hr⟩:=hy.tup
  obtain⟨h1,rfl⟩:=cA (show (if (bI 19 d&&(br d&&bT ys))=true then some (false,D.bl (if n then !(dj ys d) else dj ys d)) else none)=some z by cases d<;>exact hz)
  simp only [aY] at h1
  exact⟨d,ys,F,a,vs,hx,rfl,.inr hl,hr,h1.1,h1.2.1,h1.2.2,k _ H F (Gr.refl dom) rfl⟩
 | lst ys =>
  obtain⟨a,vs,rfl,hl,hr⟩:=hy.lst
  obtain⟨h1,rfl⟩:=cA (show (if (bI 19 d&&(br d&&bT ys))=true then some (false,D.bl (if n then !(dj ys d) else dj ys d)) else none)=some z by cases d<;>exact hz)
  simp only [aY] at h1
  exact⟨d,ys,F,a,vs,hx,rfl,.inl hl,hr,h1.1,h1.2.1,h1.2.2,k _ H F (Gr.refl dom) rfl⟩
 | _=>cases d<;>cases hz
theorem zN (h:eI .ne d e=some z):∃c,z=(false,.bl c):=by
 rw [eI] at h
 split at h
 ·cases h;exact⟨_,rfl⟩
 ·cases e1:pX d e with
  | none=>rw [e1] at h;cases h
  | some c=>rw [e1] at h;cases h;exact⟨_,rfl⟩
theorem qOZ {o:COp}(hu:X.A.units+20<cLine) (h:zB op=some o):dP X (compareOp op) (eI o):=by
 cases op with
 | Eq =>
  cases h
  refine⟨_,qQP hu,λH F d e x y z Q hz dom hx hy k=>?_⟩
  obtain⟨h1,rfl⟩:=cA (show (if ((bI 20 d||bI 20 e)&&(br d&&br e))=true then some (false,D.bl (bu d e)) else none)=some z from hz)
  simp only [aY] at h1
  exact⟨d,e,F,hx,hy,h1.1,h1.2.1,h1.2.2,k _ H F (Gr.refl dom) rfl⟩
 | NotEq =>
  cases h
  refine⟨_,qQM hu,λH F d e x y z Q hz dom hx hy k=>?_⟩
  obtain⟨c,rfl⟩:=zN hz
  exact⟨d,e,F,c,hx,hy,hz,k _ H F (Gr.refl dom) rfl⟩
 | Lt=>cases h;exact n6 (kk:=λi j=>.bl (decide (i<j))) qTm (λd e z h=>by cases d<;>first|(cases h;done)|(cases e<;>first|(cases h;exact⟨_,_,rfl,rfl,rfl⟩)|cases h)) λ_ _ _ _=>rfl
 | LtE=>cases h;exact n6 (kk:=λi j=>.bl (decide (i<=j))) qTn (λd e z h=>by cases d<;>first|(cases h;done)|(cases e<;>first|(cases h;exact⟨_,_,rfl,rfl,rfl⟩)|cases h)) λ_ _ _ _=>rfl
 | Gt=>cases h;exact n6 (kk:=λi j=>.bl (decide (j<i))) qTo (λd e z h=>by cases d<;>first|(cases h;done)|(cases e<;>first|(cases h;exact⟨_,_,rfl,rfl,rfl⟩)|cases h)) λ_ _ _ _=>rfl
 | GtE=>cases h;exact n6 (kk:=λi j=>.bl (decide (j<=i))) qTp (λd e z h=>by cases d<;>first|(cases h;done)|(cases e<;>first|(cases h;exact⟨_,_,rfl,rfl,rfl⟩)|cases h)) λ_ _ _ _=>rfl
 | In=>cases h;exact Ak false hu
 | NotIn=>cases h;exact Ak true hu
 | _=>cases h
theorem zq (h:rV n d e=some z):∃c,z=(false,.bl c):=by
 cases e with
 | tup ys=>exact⟨_,(cA (show (if (bI 19 d&&(br d&&bT ys))=true then some (false,D.bl (if n then !(dj ys d) else dj ys d)) else none)=some z by cases d<;>exact h)).2.symm⟩
 | lst ys=>exact⟨_,(cA (show (if (bI 19 d&&(br d&&bT ys))=true then some (false,D.bl (if n then !(dj ys d) else dj ys d)) else none)=some z by cases d<;>exact h)).2.symm⟩
 | _=>cases d<;>cases h
theorem qRJ (h:eI o d e=some z):∃c,z=(false,.bl c):=by
 cases o with
 | eq=>obtain⟨_,rfl⟩:=cA (show (if ((bI 20 d||bI 20 e)&&(br d&&br e))=true then some (false,D.bl (bu d e)) else none)=some z from h);exact⟨_,rfl⟩
 | ne=>exact zN h
 | isin=>exact zq h
 | notin=>exact zq h
 | _=>cases d<;>first|(cases h;done)|(cases e<;>first|(cases h;exact⟨_,rfl⟩)|cases h)
end
end Dw
namespace Dw
open PySem PySem.Spec PyProof.Rows L2
section
variable {call:Nat->List D->Option R}{G:Gx}{k:Nat}{X:Cx}{sc:Scope}{N:List Str}
theorem qRm (neg:Bool):dP X (compareOp (if neg then .IsNot else .Is)) (mw neg):=by
 refine⟨_,qQN neg,λH F d e x y z Q hz dom hx hy k=>?_⟩
 obtain⟨b,rfl⟩:∃b,z=(false,.bl b):=by
  cases d<;>first|(cases hz;done)|(cases e<;>first|(cases hz;exact⟨_,rfl⟩)|cases hz)
 exact⟨d,e,F,b,hx,hy,hz,k _ H F (Gr.refl dom) rfl⟩
theorem qTC (h:mw neg d e=some z):∃c,z=(false,.bl c):=by
 cases d<;>first|(cases h;done)|(cases e<;>first|(cases h;exact⟨_,rfl⟩)|cases h)
theorem qP5 (neg:Bool) (hop:op=if neg then .IsNot else .Is) (hc:rT c=some d) (ha:dO call X a ca) :
  SndE call X (.Compare a [op] [.Constant c j pos'] pos) (.isC neg ca d)/\dS call X (.Compare a [op] [.Constant c j pos'] pos) (.isC neg ca d):=by
 subst hop
 obtain⟨r,hr,hq⟩:=qRm (X:=X) neg
 obtain⟨ta,pa,qa⟩:=ha
 obtain⟨tb,pb,qb⟩:=(C5 (call:=call) (X:=X) (j:=j) (pos:=pos') hc).look (λi z=>nomatch z)
 have hm:behindInMarks (if neg then CmpOp.IsNot else CmpOp.Is) (.Constant c j pos')=false:=by cases neg<;>exact qQU _
 constructor
 ·refine⟨_,Bm hr pa pb hm,λGe H F Z τ z Q hz hs k=>?_⟩
  obtain⟨x,ex,ez⟩:=ak hz
  refine lD (call:=call) (cb:=.k d) (a:=a) (b:=a) (y:=d) qa qb ex rfl hs λv w H2 F2 g rx ry=>?_
  exact hq H2 F2 x d v w z Q ez g.dom rx ry λu H' F' g' rr=>k u H' F' (g.trans g') (rr.back g.same)
 ·refine⟨_,B5 hr pa pb hm,λGe H F Z τ xx bb Q hz hs k=>?_⟩
  obtain⟨x,ex,ez⟩:=ak hz
  refine lD (call:=call) (cb:=.k d) (a:=a) (b:=a) (y:=d) qa qb ex rfl hs λv w H2 F2 g rx ry=>?_
  obtain⟨c,ec⟩:=qTC ez
  cases ec
  exact hq H2 F2 x d v w _ _ ez g.dom rx ry λu H' F' g' rr=>⟨bb,rr,k H' F' (g.trans g')⟩
theorem qNC (ha:dO call X a ca):SndE call X (.UnaryOp .USub a pos) (.neg ca):=by
 obtain⟨ta,pa,qa⟩:=ha
 refine⟨_,qTg qPx pa,λGe H F Z τ z Q hz hs k=>?_⟩
 obtain⟨x,ex,ez⟩:=ak hz
 refine qa Ge H F Z τ x _ ex hs λv H1 F1 g rx=>?_
 cases x with
 | int i=>cases ez;exact⟨i,rx.int,k _ H1 F1 g rfl⟩
 | _=>cases ez
theorem SndE.test (h:SndE call X e c) (he:∀whole,isTrue e X.env whole=(do let v <-whole;standAt e.pos;holding [v] (truthy v))):dS call X e c:=by
 obtain⟨t,p,q⟩:=h
 refine⟨_,qQl p he,λGe H F Z τ x b Q hz hs k=>?_⟩
 refine q Ge H F Z τ (x,.bl b) _ hz hs λv H' F' g rr=>?_
 cases x with
 | false=>exact⟨b,rr,k H' F' g⟩
 | true=>obtain⟨_,_,_,e,_⟩:=rr;cases e
theorem qNA (ha:SndE call X a ca) (ht:dS call X a ca):SndE call X (.UnaryOp .Not a pos) (.not ca)/\dS call X (.UnaryOp .Not a pos) (.not ca):=by
 have inv:∀{Z:En} {z:R},aa call Z (.not ca)=some z->∃x b,aa call Z ca=some (x,.bl b)/\z=(false,.bl (!b)):=λ{Z z} hz=>by
  obtain⟨⟨x,d⟩,e1,e2⟩:=ak hz
  cases d with
  | bl b=>cases e2;exact⟨x,b,e1,rfl⟩
  | _=>cases e2
 constructor
 ·obtain⟨t,p,q⟩:=ha
  refine⟨_,qQy p,λGe H F Z τ z Q hz hs k=>?_⟩
  obtain⟨x,b,e1,rfl⟩:=inv hz
  refine q Ge H F Z τ _ _ e1 hs λv H' F' g rr=>?_
  cases x with
  | false=>exact⟨b,rr,k _ H' F' g rfl⟩
  | true=>obtain⟨_,_,_,e,_⟩:=rr;cases e
 ·obtain⟨t,p,q⟩:=ht
  refine⟨_,qQm p,λGe H F Z τ x b Q hz hs k=>?_⟩
  obtain⟨x',b',e1,e2⟩:=inv hz
  cases e2
  exact q Ge H F Z τ x' b' _ e1 hs λH' F' g=>k H' F' g
variable (call X) in
def SndW (op:BoolOp) (es:List Expr) (c:C):Prop:=∀pos:Pos,SndE call X (.BoolOp op es pos) c/\∃t:TT,PW X (.BoolOp op es pos) t /\
 ∀(Ge:Gp) (H:Hp) (F:Fz) (Z:En) (τ:L2.St) (x b:Bool) (Q:Bool->Hp->Prop),aa call Z c=some (x,.bl b)->SR X.K Ge H F Z τ->(∀H' F',Gr H F H' F'->Q b H')->t τ H Q
theorem SndW.test (h:SndW call X op es c):dS call X (.BoolOp op es pos) c:=by
 obtain⟨_,t,p,q⟩:=h pos
 exact⟨t,p.pt,q⟩
theorem BW (ha:SndE call X a ca) (ht:dS call X a ca):SndW call X op [a] ca:=λpos=>by
 obtain⟨t,p,q⟩:=ha
 obtain⟨t',p',q'⟩:=ht
 refine⟨⟨t,qQx p,q⟩,?_⟩
 cases op with
 | And=>exact⟨t',qN1 p',q'⟩
 | Or=>exact⟨t',qQj p',q'⟩
theorem zE {K:Qb}{H H':Hp}{F':Fz}{x b:Bool}{v:V}(h:RR K H H' F' (x,.bl b) v):v=.bl b:=by
 cases x with
 | false=>exact h
 | true=>obtain⟨_,_,_,e,_⟩:=h;cases e
theorem qNM {a b:Expr}{rest:List Expr}{ca cb:C}(ha:SndE call X a ca) (hta:dS call X a ca) (hb:SndW call X .And (b::rest) cb):SndW call X .And (a::b::rest) (.and ca cb):=λpos=>by
 obtain⟨hb1,tb',pb',qb'⟩:=hb pos
 have inv:∀{Z:En} {z:R},aa call Z (.and ca cb)=some z->∃x c,aa call Z ca=some (x,.bl c)/\(if c=true then aa call Z cb=some z else z=(false,.bl false)):=λ{Z z} hz=>by
  obtain⟨⟨x,d⟩,e1,e2⟩:=ak hz
  cases d with
  | bl c=>cases c with
   | true=>exact⟨x,true,e1,e2⟩
   | false=>cases e2;exact⟨x,false,e1,rfl⟩
  | _=>cases e2
 constructor
 ·obtain⟨ta,pa,qa⟩:=ha
  obtain⟨tb,pb,qb⟩:=hb1
  refine⟨_,qQF pa pb,λGe H F Z τ z Q hz hs k=>?_⟩
  obtain⟨x,c,e1,e2⟩:=inv hz
  refine qa Ge H F Z τ _ _ e1 hs λv H' F' g rr=>⟨c,zE rr,?_⟩
  cases c with
  | true=>exact qb Ge H' F' Z τ z Q e2 (hs.grow g) λu H2 F2 g2 r2=>k u H2 F2 (g.trans g2) (r2.back g.same)
  | false=>have e2':z=(false,.bl false):=e2;subst e2';exact k _ H' F' g rfl
 ·obtain⟨ta,pa,qa⟩:=hta
  refine⟨_,qQk pa pb',λGe H F Z τ x b Q hz hs k=>?_⟩
  obtain⟨x',c,e1,e2⟩:=inv hz
  refine qa Ge H F Z τ x' c _ e1 hs λH' F' g=>?_
  cases c with
  | true=>exact qb' Ge H' F' Z τ x b Q e2 (hs.grow g) λH2 F2 g2=>k H2 F2 (g.trans g2)
  | false=>have e2':(x,D.bl b)=(false,.bl false):=e2;cases e2';exact k H' F' g
theorem qP1 {a b:Expr}{rest:List Expr}{ca cb:C}(ha:SndE call X a ca) (hta:dS call X a ca) (hb:SndW call X .Or (b::rest) cb):SndW call X .Or (a::b::rest) (.or ca cb):=λpos=>by
 obtain⟨hb1,tb',pb',qb'⟩:=hb pos
 have inv:∀{Z:En} {z:R},aa call Z (.or ca cb)=some z->∃x c,aa call Z ca=some (x,.bl c)/\(if c=true then z=(false,.bl true) else aa call Z cb=some z):=λ{Z z} hz=>by
  obtain⟨⟨x,d⟩,e1,e2⟩:=ak hz
  cases d with
  | bl c=>cases c with
   | false=>exact⟨x,false,e1,e2⟩
   | true=>cases e2;exact⟨x,true,e1,rfl⟩
  | _=>cases e2
 constructor
 ·obtain⟨ta,pa,qa⟩:=ha
  obtain⟨tb,pb,qb⟩:=hb1
  refine⟨_,qTh pa pb,λGe H F Z τ z Q hz hs k=>?_⟩
  obtain⟨x,c,e1,e2⟩:=inv hz
  refine qa Ge H F Z τ _ _ e1 hs λv H' F' g rr=>⟨c,zE rr,?_⟩
  cases c with
  | false=>exact qb Ge H' F' Z τ z Q e2 (hs.grow g) λu H2 F2 g2 r2=>k u H2 F2 (g.trans g2) (r2.back g.same)
  | true=>have e2':z=(false,.bl true):=e2;subst e2';exact k _ H' F' g rfl
 ·obtain⟨ta,pa,qa⟩:=hta
  refine⟨_,qTb pa pb',λGe H F Z τ x b Q hz hs k=>?_⟩
  obtain⟨x',c,e1,e2⟩:=inv hz
  refine qa Ge H F Z τ x' c _ e1 hs λH' F' g=>?_
  cases c with
  | false=>exact qb' Ge H' F' Z τ x b Q e2 (hs.grow g) λH2 F2 g2=>k H2 F2 (g.trans g2)
  | true=>have e2':(x,D.bl b)=(false,.bl true):=e2;cases e2';exact k H' F' g
theorem qNF (ht:dS call X t ct) (ha:SndE call X a ca) (hb:SndE call X b cb):SndE call X (.IfExp t a b pos) (.ifx ct ca cb):=by
 obtain⟨tt,pt,qt⟩:=ht
 obtain⟨ta,pa,qa⟩:=ha
 obtain⟨tb,pb,qb⟩:=hb
 refine⟨_,qKQ pt pa pb,λGe H F Z τ z Q hz hs k=>?_⟩
 obtain⟨⟨x,d⟩,e1,e2⟩:=ak hz
 cases d with
 | bl c =>
  refine qt Ge H F Z τ x c _ e1 hs λH' F' g=>?_
  cases c with
  | true=>exact pV (qa Ge H' F' Z τ z Q e2 (hs.grow g) λu H2 F2 g2 r2=>k u H2 F2 (g.trans g2) (r2.back g.same))
  | false=>exact pU (qb Ge H' F' Z τ z Q e2 (hs.grow g) λu H2 F2 g2 r2=>k u H2 F2 (g.trans g2) (r2.back g.same))
 | _=>cases e2
theorem qQn (ht:PT X t tt) (ha:PT X a ta) (hb:PT X b tb):PT X (.IfExp t a b pos) (fun Z H Q=>tt Z H λc H1=>if c=true then ta Z H1 Q else tb Z H1 Q):=by
 intro pins s Z H Q I h
 rw [PySem.isTrue]
 refine Qc (aF (ht pins s Z H _ I h) λd s1 ⟨H1,I1,q1⟩=>?_)
 cases d with
 | true=>exact ha pins s1 Z H1 Q I1 q1
 | false=>exact hb pins s1 Z H1 Q I1 q1
theorem qKt (ht:dS call X t ct) (ha:dS call X a ca) (hb:dS call X b cb):dS call X (.IfExp t a b pos) (.ifx ct ca cb):=by
 obtain⟨tt,pt,qt⟩:=ht
 obtain⟨ta,pa,qa⟩:=ha
 obtain⟨tb,pb,qb⟩:=hb
 refine⟨_,qQn pt pa pb,λGe H F Z τ x b Q hz hs k=>?_⟩
 obtain⟨⟨x',d⟩,e1,e2⟩:=ak hz
 cases d with
 | bl c =>
  refine qt Ge H F Z τ x' c _ e1 hs λH' F' g=>?_
  cases c with
  | true=>exact pV (qa Ge H' F' Z τ x b Q e2 (hs.grow g) λH2 F2 g2=>k H2 F2 (g.trans g2))
  | false=>exact pU (qb Ge H' F' Z τ x b Q e2 (hs.grow g) λH2 F2 g2=>k H2 F2 (g.trans g2))
 | _=>cases e2
theorem qRj (n:Nat) (i:Int):Dw.ixN n i=L2.ixN n i:=rfl
theorem rl {K:Qb}{H:Hp}{F:Fz}{ds:List D}{vs:List V}{i:Int}{d:D}(h:RDs K H F ds vs) (e:gI ds i=some d):∃v,mK vs i=some v/\RD K H F d v:=by
 obtain⟨j,e1,e2⟩:=ak e
 obtain⟨v,e3,e4⟩:=RDs.get h e2
 refine⟨v,?_,e4⟩
 unfold mK
 rw [RDs.length h,<-qRj,e1]
 exact e3
theorem qP4 {a b:Expr}{ca cb:C}{pos:Pos}(hp:qX b) (ha:dO call X a ca) (hb:dO call X b cb):SndE call X (.Subscript a b pos) (.ix ca cb):=by
 obtain⟨ta,pa,qa⟩:=ha
 obtain⟨tb,pb,qb⟩:=hb
 refine⟨_,zI (ix_list.or Ac) pa pb hp,λGe H F Z τ z Q hz hs k=>?_⟩
 obtain⟨x,y,ex,ey,ez⟩:=qB (by simpa only [zW] using hz)
 refine lD (a:=a) (b:=b) qa qb ex ey hs λv w H2 F2 g rx ry=>?_
 cases x with
 | lst xs =>
  cases y with
  | int i =>
   obtain⟨d,e1,e2⟩:=yae.mp ez
   subst e2
   obtain⟨p,vs,rfl,hl,hr⟩:=rx.lst
   obtain⟨u,e3,e4⟩:=rl hr e1
   exact .inl ⟨p,vs,i,u,rfl,ry.int,hl,e3,k u H2 F2 g e4⟩
  | _=>cases ez
 | tup xs =>
  cases y with
  | int i =>
   obtain⟨d,e1,e2⟩:=yae.mp ez
   subst e2
   obtain⟨p,vs,rfl,hl,hr⟩:=rx.tup
   obtain⟨u,e3,e4⟩:=rl hr e1
   exact .inr ⟨p,vs,i,u,rfl,ry.int,hl,e3,k u H2 F2 g e4⟩
  | _=>cases ez
 | _=>cases y<;>cases ez
theorem lW (n d:Nat) (o:Option Int):Dw.cutAt n d o=HT.sIx n d o:=by
 cases o with
 | none=>rfl
 | some v =>
  have h:=HT.clip_eq v n d
  unfold Dw.cutAt
  by_cases hv:v<0
  ·simp only [hv,if_true] at h ⊢;omega
  ·simp only [hv,if_false] at h ⊢;omega
theorem A5 {K:Qb}{H:Hp}{F:Fz}{ds:List D}{vs:List V}(h:RDs K H F ds vs) (l u:Option Int):RDs K H F (gw ds l u) (je vs l u):=by
 unfold gw je
 rw [RDs.length h,lW,lW]
 exact RDs.take _ (RDs.drop _ h)
theorem qP0 {a:Expr}{lo hi:Option Expr}{ca:C}{cl ch:Option C}{p2 pos:Pos}(ha:dO call X a ca) (hl:nc call X lo cl) (hh:nc call X hi ch):SndE call X (.Subscript a (.Slice lo hi none p2) pos) (.sl ca cl ch):=by
 obtain⟨ta,pa,qa⟩:=ha
 obtain⟨tl,pl,ql⟩:=hl
 obtain⟨th,ph,qh⟩:=hh
 refine⟨_,qKM ((sl_list.or qP8).or qP9) pa pl ph,λGe H F Z τ z Q hz hs k=>?_⟩
 obtain⟨x,ex,hz⟩:=ak hz
 obtain⟨l,el,hz⟩:=ak hz
 obtain⟨u,eu,hz⟩:=ak hz
 refine qa Ge H F Z τ x _ ex hs λv H1 F1 g1 rx=>?_
 refine ql Ge H1 F1 Z τ l _ el (hs.grow g1) λH2 F2 g2=>?_
 refine qh Ge H2 F2 Z τ u _ eu ((hs.grow g1).grow g2) λH3 F3 g3=>?_
 have g:=(g1.trans g2).trans g3
 have rx3:=(rx.grow g2).grow g3
 cases x with
 | lst xs =>
  cases hz
  obtain⟨p,vs,rfl,hl',hr⟩:=rx3.lst
  refine .inl (.inl ⟨p,vs,rfl,hl',λq hq=>?_⟩)
  obtain⟨g4,rr⟩:=gE g.dom hq (A5 hr l u)
  exact k _ _ _ (g.trans g4) (rr.back g.same)
 | tup xs =>
  cases hz
  obtain⟨p,vs,rfl,hl',hr⟩:=rx3.tup
  by_cases hw:Dw.cutAt xs.length 0 l=0/\Dw.cutAt xs.length xs.length u=xs.length
  ·refine .inr ⟨p,vs,rfl,hl',?_,?_⟩
   ·rw [RDs.length hr,<-lW,<-lW];exact hw
   ·have e:gw xs l u=xs:=by
     unfold gw
     rw [hw.1,hw.2]
     simp
    have e':(false,D.tup (gw xs l u))=(false,D.tup xs):=by rw [e]
    refine k _ H3 F3 g ?_
    rw [e]
    exact⟨p,vs,rfl,hl',hr⟩
  ·refine .inl (.inr ⟨p,vs,rfl,hl',?_,λq hq=>?_⟩)
   ·rw [RDs.length hr,<-lW,<-lW];exact hw
   ·obtain⟨g4,rr⟩:=lY g.dom hq (A5 hr l u)
    exact k _ _ _ (g.trans g4) (rr.back g.same)
 | _=>cases hz
theorem RDs.rev {K:Qb}{H:Hp}{F:Fz}:∀{ds:List D}{vs:List V},RDs K H F ds vs->RDs K H F ds.reverse vs.reverse
 | [],vs,h=>by have h:vs=[]:=h;subst h;rfl
 | d::ds,vs,h=>by
  obtain⟨v,r,rfl,h1,h2⟩:=h
  rw [mZ,mZ]
  exact RDs.append (RDs.rev h2) ⟨v,[],rfl,h1,rfl⟩
theorem qHT:nc call X none none:=⟨_,qN4,λGe H F Z τ o Q ho hs k=>by cases ho;exact k H F (Gr.refl hs.dom)⟩
theorem qHS (h:dO call X e c):nc call X (some e) (some c):=by
 obtain⟨t,p,q⟩:=h
 refine⟨_,qN3 p,λGe H F Z τ o Q ho hs k=>?_⟩
 obtain⟨x,ex,ez⟩:=ak ho
 refine q Ge H F Z τ x _ ex hs λv H1 F1 g rx=>?_
 cases x with
 | int i=>cases ez;exact⟨i,rx.int,k H1 F1 g⟩
 | _=>cases ez
theorem qKx:iF call X [] []:=⟨_,gC,λGe H F Z τ ds Q h hs k=>by cases h;exact k [] H F (Gr.refl hs.dom) rfl⟩
theorem qHY (hst:starEach (e::es) X.env=(false,eval e X.env)::starEach es X.env) (h:SndE call X e c) (hr:iF call X es cs):iF call X (e::es) (c::cs):=by
 obtain⟨t,p,q⟩:=h
 obtain⟨t',p',q'⟩:=hr
 refine⟨_,fy p p' hst,λGe H F Z τ ds Q hd hs k=>?_⟩
 obtain⟨r,er,hd⟩:=ak hd
 obtain⟨ds',ed,hd⟩:=ak hd
 cases hd
 refine q Ge H F Z τ r _ er hs λv H1 F1 g rr=>?_
 obtain⟨F2,g2,rd⟩:=rr.fz g
 refine q' Ge H1 F2 Z τ ds' _ ed (hs.grow g2) λvs H3 F3 g3 rs=>?_
 exact k (v::vs) H3 F3 (g2.trans g3) ⟨v,vs,rfl,RD.mono g3.keep rd,rs⟩
theorem qHV:nq call X [] []:=⟨_,gC,λGe H F Z τ ds Q h hs k=>by cases h;exact k [] H F (Gr.refl hs.dom) rfl⟩
theorem qGP (hst:starEach (e::es) X.env=(false,eval e X.env)::starEach es X.env) (h:qG call X e c) (hr:nq call X es cs):nq call X (e::es) (c::cs):=by
 obtain⟨t,p,q⟩:=h
 obtain⟨t',p',q'⟩:=hr
 refine⟨_,fy p p' hst,λGe H F Z τ ds Q hd hs k=>?_⟩
 obtain⟨r,er,hd⟩:=ak hd
 obtain⟨ds',ed,hd⟩:=ak hd
 cases hd
 refine q Ge H F Z τ r _ er hs λv H1 F1 g rr=>?_
 refine q' Ge H1 F1 Z τ ds' _ ed (hs.grow g) λvs H3 F3 g3 rs=>?_
 exact k (v::vs) H3 F3 (g.trans g3) ⟨v,vs,rfl,rr.grow g3,rs⟩
theorem qHX:iL call X [] []:=⟨_,gC,λGe H F Z τ ds Q h hs k=>by cases h;exact k [] H F (Gr.refl hs.dom) rfl⟩
theorem qGQ (hst:starEach (e::es) X.env=(false,eval e X.env)::starEach es X.env) (h:dO call X e c) (hr:iL call X es cs):iL call X (e::es) (c::cs):=by
 obtain⟨t,p,q⟩:=h
 obtain⟨t',p',q'⟩:=hr
 refine⟨_,fy p p' hst,λGe H F Z τ ds Q hd hs k=>?_⟩
 obtain⟨r,er,hd⟩:=ak hd
 obtain⟨ds',ed,hd⟩:=ak hd
 cases hd
 refine q Ge H F Z τ r _ er hs λv H1 F1 g rr=>?_
 refine q' Ge H1 F1 Z τ ds' _ ed (hs.grow g) λvs H3 F3 g3 rs=>?_
 exact k (v::vs) H3 F3 (g.trans g3) ⟨v,vs,rfl,rr.grow g3,rs⟩
theorem qNu (h:iF call X es cs):SndE call X (.Tuple es x1 pos) (.tup cs):=by
 obtain⟨t,p,q⟩:=h
 refine⟨_,qQv p,λGe H F Z τ z Q hz hs k=>?_⟩
 obtain⟨ds,ed,hz⟩:=ak hz
 obtain⟨h1,rfl⟩:=cA hz
 refine q Ge H F Z τ ds _ ed hs λvs H1 F1 g rs=>⟨by rw [RDs.length rs];exact h1,λp hp=>?_⟩
 obtain⟨g4,rr⟩:=lY g.dom hp rs
 exact k _ _ _ (g.trans g4) (rr.back g.same)
theorem qND (h:iF call X es cs):SndE call X (.List es pos) (.lst cs):=by
 obtain⟨t,p,q⟩:=h
 refine⟨_,qQA p,λGe H F Z τ z Q hz hs k=>?_⟩
 obtain⟨ds,ed,hz⟩:=ak hz
 obtain⟨h1,rfl⟩:=cA hz
 refine q Ge H F Z τ ds _ ed hs λvs H1 F1 g rs=>⟨by rw [RDs.length rs];exact h1,λp hp=>?_⟩
 obtain⟨g4,rr⟩:=gE g.dom hp rs
 exact k _ _ _ (g.trans g4) (rr.back g.same)
noncomputable def di:Expr->Bool
 | .Starred _ _=>false
 | _=>true
theorem cR (h:di e=true):starEach (e::es) env=(false,eval e env)::starEach es env:=by
 cases e<;>first|rfl|cases h
theorem ku:∀{es:List Expr}{env:Env}{pos:Pos},es.all di=true->(backTo pos (starEach es env)).any (·.1)=false
 | [],env,pos,_=>rfl
 | e::es,env,pos,h=>by
  rw [ft,aY] at h
  rw [cR h.1]
  have:=ku (env:=env) (pos:=pos) h.2
  simpa [backTo] using this
theorem qKw (g:XG call G k X sc N) (hf:G.defs.lookup f=some i) (hg:bD sc f=true) (hd:(f == ("__debug__":Str))=false) (hn:es.all di=true) (hne:es≠[]) (h:nq call X es cs) :
  SndE call X (.Call (.Name f p) es [] pos) (.call i cs):=by
 obtain⟨a,fd,ps,hm,hk,hb,hF,hl⟩:=(g.defs f i hf).ex
 obtain⟨t,pt,q⟩:=h
 cases es with
 | nil=>exact Qn rfl hne
 | cons e es =>
  rw [ft,aY] at hn
  refine⟨_,qN9 hF g.room (g.gl f hg) hm hk hb .nil nz pt hd (cR hn.1) (ku hn.2),λGe H F Z τ z Q hz hs k=>?_⟩
  obtain⟨ds,ed,hz⟩:=ak hz
  refine q Ge H F Z τ ds _ ed hs λvs H1 F1 g1 rs=>?_
  rw [i7]
  exact⟨by rw [RGs.length rs];exact hl ds z hz,F1,ds,z,g1.dom,rs,hz,λv H' F' g2 rr=>k v H' F' (g1.trans g2) (rr.back g1.same)⟩
theorem BJ:∀{cs:List C}{ds:List D},bO call Z cs=some ds->ds.length=cs.length
 | [],ds,h=>by cases h;rfl
 | c::cs,ds,h=>by
  obtain⟨r,er,h⟩:=ak h
  obtain⟨ds',ed,h⟩:=ak h
  cases h
  simp [BJ ed]
theorem kj {id:String}{b:BI}{es:List Expr}{cs:List C}{p pos:Pos}{r:List V->Hp->VK->Prop}(hc:CallR X (.builtin id) r) (hg:Gl X x) (hm:X.mg x=none) (hv:Qo x=some (.builtin id)) (hnm:x≠"__name__") (hdb:(x == ("__debug__":Str))=false)
  (hn:es.all di=true) (hne:es≠[]) (h:iL call X es cs)
  (hr:∀(H:Hp) (F:Fz) (ds:List D) (vs:List V) (z:R) (Q:VK),mz b ds=some z->(∀a,H a=none->¬F a)->RPs X.K H F ds vs->(∀v H' F',Gr H F H' F'->RR X.K H H' F' z v->Q v H')->r vs H Q) :
  SndE call X (.Call (.Name x p) es [] pos) (.bi b cs):=by
 obtain⟨t,pt,q⟩:=h
 cases es with
 | nil=>exact Qn rfl hne
 | cons e es =>
  rw [ft,aY] at hn
  refine⟨_,Ct hc hg hm hv pt hnm hdb (cR hn.1) (ku hn.2),λGe H F Z τ z Q hz hs k=>?_⟩
  obtain⟨ds,ed,hz⟩:=ak hz
  refine q Ge H F Z τ ds _ ed hs λvs H1 F1 g1 rs=>?_
  exact hr H1 F1 ds vs z Q hz g1.dom rs λv H' F' g2 rr=>k v H' F' (g1.trans g2) (rr.back g1.same)
theorem vw {id:String}{b:BI}{es:List Expr}{cs:List C}{p pos:Pos}{r:List V->Hp->VK->Prop}(hc:CallR X (.type id) r) (hg:Gl X x) (hm:X.mg x=none) (hv:Qo x=some (.type id)) (hnm:x≠"__name__") (hdb:(x == ("__debug__":Str))=false)
  (hn:es.all di=true) (hne:es≠[]) (h:iL call X es cs)
  (hr:∀(H:Hp) (F:Fz) (ds:List D) (vs:List V) (z:R) (Q:VK),mz b ds=some z->(∀a,H a=none->¬F a)->RPs X.K H F ds vs->(∀v H' F',Gr H F H' F'->RR X.K H H' F' z v->Q v H')->r vs H Q) :
  SndE call X (.Call (.Name x p) es [] pos) (.bi b cs):=by
 obtain⟨t,pt,q⟩:=h
 cases es with
 | nil=>exact Qn rfl hne
 | cons e es =>
  rw [ft,aY] at hn
  refine⟨_,vo hc hg hm hv pt hnm hdb (cR hn.1) (ku hn.2),λGe H F Z τ z Q hz hs k=>?_⟩
  obtain⟨ds,ed,hz⟩:=ak hz
  refine q Ge H F Z τ ds _ ed hs λvs H1 F1 g1 rs=>?_
  exact hr H1 F1 ds vs z Q hz g1.dom rs λv H' F' g2 rr=>k v H' F' (g1.trans g2) (rr.back g1.same)
end
end Dw
namespace Dw
open PySem PySem.W PySem.Calls PyProof.Rows
section
variable {prog:Program}{w:World}{A:Around}{E:Value->Shared->Prop}{s:Shared}{r l:Addr}
theorem qOy:typeLookup (.type "list_reverseiterator") "__len__"=pure none:=by rw [typeLookup_type,builtinLookup_eq_fast];kernel_rfl
theorem qK6:typeLookup (.type "list_reverseiterator") "__length_hint__"=pure (some (.builtin "list_reverseiterator.__length_hint__")):=by rw [typeLookup_type,builtinLookup_eq_fast];kernel_rfl
theorem qLe {Q:Bool->Shared->Prop}(hT:s.TypeIs (.ref r) "list_reverseiterator") (h:Q false s):wpAny (model prog w) A (Builtin.List.listLengthHint (.ref r)) Q E s:=by
 unfold Builtin.List.listLengthHint
 refine Qc (wpAny_specialOf hT qOy ?_)
 try dsimp only
 refine wpAny_ite_split (λz=>Qn z (by decide)) λ_=>?_
 refine wpAny_ite_split (λz=>Qn z (by decide)) λ_=>?_
 refine Qc (wpAny_specialOf hT qK6 ?_)
 try dsimp only
 rw [show splitId "list_reverseiterator.__length_hint__"=some ("list_reverseiterator","__length_hint__") from by decide +kernel]
 try dsimp only
 refine Qc (wpAny_isInstance (T:="list_reverseiterator") (b:=true) hT (by rw [isSubtype_type];kernel_rfl) ?_)
 refine wpAny_ite_split (λz=>Qn z (by decide)) λ_=>?_
 refine wpAny_ite_split (λ_=>?_) λz=>Qn (by decide +kernel) z
 refine wpAny_ite_split (λz=>Qn z (by decide +kernel)) λ_=>?_
 exact Qd h
theorem qG4 {R:Result->Shared->Prop}{items:Array Value}(hh:A.handled=none) (hI:s.heap.IsRevIter r l ((items.size:Int) - 1)) (hl:s.heap.IsList l items) (hrl:l≠r) (S:Addr) (hSr:S≠r) (hSl:S≠l) (res:Value) (c₀:Nat) (hS:s.heap.get? S=some { cls:=.type "list",data:=.seq #[] c₀ }) (hn:items.size<=sizeLine)
  (hR:∀hp k (row:Array Value) m,(∀b o,b≠S->b≠r->s.heap.get? b=some o->hp.get? b=some o)->hp.get? S=some { cls:=.type "list",dict:=none,data:=.seq row m,slots:=#[] }->ItemsOf (λi v=>items[items.size - 1 - i]?=some v) row items.size->R (.ok (.ret res)) { s with heap:=hp,toks:=k }) :
  wpAny (model prog w) A.in1 (Builtin.List.listExtendWith (.ref S) (.ref r) res)
   (λfin z=>match fin with|.done f=>R (.ok f) z|.again cd=>cd.quiet=true/\codeAny (model prog w) A cd R z) (λe z=>R (.error e) z) s:=by
 have W:=Walks.listRev (prog:=prog) (w:=w) (A:=A.in1) hh r l hrl items
 have hSf:S∉[r,l]:=by simp [hSr,hSl]
 have loop:codeAny (model prog w) A (.builtin "list.extend.loop" ⟨[.ref S,.ref r,res],[]⟩) R s:=by
  refine codeAny_extend_loopS W.toS hn S hSf res items.size 0 s #[] c₀ rfl (fq _) ⟨fq _,by simpa using hI,hl⟩ hS (ItemsOf.nil _) λz row m mv at_ its=>?_
  rw [Moved.eq_with mv]
  refine hR z.heap z.toks row m (λb o h1 h2 e=>mv.heap b o (λq=>?_) e) at_ its
  rcases yag.mp q with q|q
  ·exact h1 q
  ·exact h2 (List.mem_singleton.mp q)
 unfold Builtin.List.listExtendWith
 refine Qc (wpAny_typeOf hI.typeIs ?_)
 have e1:Builtin.List.listSameRef (.ref S) (.ref r)=false:=by simp [Builtin.List.listSameRef,hSr]
 rw [e1]
 refine wpAny_ite_split (λz=>Qn z (by decide +kernel)) λ_=>?_
 refine Qc (wpAny_pyIter_revIter hI ?_)
 refine Qc (wpAny_holding (qLe hI.typeIs ?_))
 refine wpAny_ite_split (λz=>Qn z (by decide +kernel)) λ_=>?_
 exact Qd ⟨plainId_quiet PySem.F.plain_extend_loop _,loop⟩
theorem qEo {Q:Value->Shared->Prop}{items:Array Value}(hh:A.handled=none) (hI:s.heap.IsRevIter r l ((items.size:Int) - 1)) (hl:s.heap.IsList l items) (hrl:l≠r) (hn:items.size<=sizeLine)
  (hQ:∀hp k (row:Array Value) m,(∀b o,b≠r->s.heap.get? b=some o->hp.get? b=some o)->hp.get? s.heap.objs.size=some { cls:=.type "list",dict:=none,data:=.seq row m,slots:=#[] }->ItemsOf (λi v=>items[items.size - 1 - i]?=some v) row items.size->Q (.ref s.heap.objs.size) { s with heap:=hp,toks:=k }) :
  wpAny (model prog w) A (call (.type "list") [.ref r]) Q E s:=by
 obtain⟨oI,hoI,hcI,hdI⟩:=id hI
 obtain⟨ol,hol,_⟩:=id hl
 have nr:=iv (Qi hoI)
 have nl:=iv (Qi hol)
 refine callType_codes (Q₁:=λobj z=>obj=.ref s.heap.objs.size/\z={ s with heap:=s.heap.push { cls:=.type "list",data:=.seq #[] } }) PySem.F.called_list (PySem.F.typeCall_list_1 _) PySem.F.entry_list_init (code_list_new _ ⟨rfl,rfl⟩) λobj z hz=>?_
 obtain⟨rfl,rfl⟩:=hz
 have at0:(s.heap.push { cls:=.type "list",data:=.seq #[] }).get? s.heap.objs.size=some { cls:=.type "list",data:=.seq #[] }:=Qh _ rfl
 refine⟨⟨_,at0,rfl⟩,PySem.F.args_list_init_2 _ _,?_⟩
 show wpAny _ _ (do let old <-Builtin.List.listItems (.ref s.heap.objs.size);Builtin.List.listUpdate (.ref s.heap.objs.size) (λ_=>#[]);letGo old.toList.reverse;Builtin.List.listExtendWith (.ref s.heap.objs.size) (.ref r) .none) _ _ _
 refine Qc ?_
 unfold Builtin.List.listItems
 refine Qc (wpAny_seqItems at0 rfl (Qd ?_))
 refine Qc (m:=Builtin.List.listUpdate (.ref s.heap.objs.size) (λ_=>#[])) (show wpAny _ _ (updateSeq s.heap.objs.size (λ_=>#[])) _ _ _ from wpAny_updateSeq at0 rfl ?_)
 have at1:=Heap.get?_update_self (Obj.mapSeq (λ_=>(#[]:Array Value))) at0 rfl
 have on:∀b o,s.heap.get? b=some o->((s.heap.push { cls:=.type "list",data:=.seq #[] }).update s.heap.objs.size (Obj.mapSeq (λ_=>(#[]:Array Value)))).get? b=some o:=λb o e =>
  (Heap.get?_update_other _ _ (iv (Qi e))).trans (Qg _ e)
 refine Qc (wpAny_letGo ?_)
 refine qG4 (prog:=prog) (w:=w) (A:=A.in1) (s:={ s with heap:=(s.heap.push { cls:=.type "list",data:=.seq #[] }).update s.heap.objs.size (Obj.mapSeq (λ_=>(#[]:Array Value))) }) (items:=items) (l:=l) hh ⟨oI,on _ _ hoI,hcI,hdI⟩ ?_ hrl _ nr nl .none _ at1 hn λhp k row m keep at_ its=>?_
 ·obtain⟨o,h1,h2⟩:=hl
  exact⟨o,on _ _ h1,h2⟩
 ·exact⟨rfl,hQ hp k row m (λb o hb e=>keep b o (cD (Qi e)) hb (on b o e)) at_ its⟩
end
end Dw
namespace Dw
open PySem PySem.Spec PyProof.Rows L2
theorem qNT {its:List Value}{row:Array Value}(h:ItemsOf (λi v=>its.toArray[its.toArray.size - 1 - i]?=some v) row its.toArray.size):row.toList=its.reverse:=by
 obtain⟨h1,h2⟩:=h
 have h1:row.size=its.length:=by simpa using h1
 apply List.ext_getElem
 ·simp [h1]
 ·intro i q1 q2
  have q1:i<row.size:=by simpa using q1
  have:=h2 i row[i] (sO q1)
  simp only [aZ,List.getElem?_toArray] at this
  obtain⟨q,e⟩:=yal.mp this
  rw [List.getElem_reverse,Array.getElem_toList]
  exact e.symm
section
variable {X:Cx}
theorem qGU {x y:Str}{e:Expr}{te:TE}{p p2 pos pos2:Pos}(hc:X.calm=true) (hg:Gl X x) (hm:X.mg x=none) (hv:Qo x=some (.type "list")) (hn:x≠"__name__") (hd:(x == ("__debug__":Str))=false)
  (hg':Gl X y) (hm':X.mg y=none) (hv':Qo y=some (.type "reversed")) (hn':y≠"__name__") (hd':(y == ("__debug__":Str))=false) (he:PE X e te) (hst:starEach [e] X.env=[(false,eval e X.env)]) :
  PE X (.Call (.Name x p) [.Call (.Name y p2) [e] [] pos2] [] pos) (fun Z H Q=>te Z H λv H1=>∃a xs,v=.ref a/\SqL X.K H1 a xs/\∀l,H1 l=none->Q (.ref l) (aA H1 l (.lst xs.reverse))):=by
 intro pins s Z H Q I h
 refine wpAny_Call_Name_kw (f9 I hg hm hv ?_ hn hd)
 refine gP (Calls.spliced_cons ?_)
 refine wpAny_Call_Name_kw (f9 I hg' hm' hv' ?_ hn' hd')
 have ha:wpAny (model X.prog X.w) X.A (spliced (backTo pos2 (starEach [e] X.env))) (λus s1=>∃vs H1,Inv X pins Z H1 s1/\Vals vs us/\match vs with|[v]=>∃a xs,v=.ref a/\SqL X.K H1 a xs/\∀l,H1 l=none->Q (.ref l) (aA H1 l (.lst xs.reverse))|_=>False) X.xe s:=
  (fy he gC hst) pos2 pins s Z H (λvs H1=>match vs with|[v]=>∃a xs,v=.ref a/\SqL X.K H1 a xs/\∀l,H1 l=none->Q (.ref l) (aA H1 l (.lst xs.reverse))|_=>False) I h
 refine gP (aF ha λus s1 hq=>?_) hst rfl
 obtain⟨vs,H1,I1,r1,q⟩:=hq
 match vs,r1,q with
 | [v],r1,q =>
  obtain⟨a,xs,rfl,hq,q⟩:=q
  obtain⟨u,rfl,ru⟩:=eY r1
  cases ru
  obtain⟨its,rv,pl,hz⟩:=I1.list hq
  refine call_reversed_list pl.isList ?_
  have hit:H1 s1.heap.objs.size=none:=I1.hok.fresh (aK _)
  have I2:Inv X pins Z H1 { s1 with heap:=s1.heap.push (revObj a ((its.toArray.size:Int) - 1)) }:=I1.kept (t':=s1.toks) λb o eb=>Qg _ eb
  obtain⟨f0,f1,f2,f3,f4,f5⟩:=I1.fpOk (aK _) hit
  obtain⟨o,ho,hcl,n,hda⟩:=pl.isList
  have hlt:=Qi ho
  refine Calls.spliced_nil ?_
  refine qEo (items:=its.toArray) (l:=a) (I2.ok.hd hc) ⟨_,Qh _ rfl,rfl,rfl⟩ ⟨o,Qg _ ho,hcl,n,hda⟩ (cD hlt) (by rw [aZ,<-rv.length];exact hz) λhp k row m keep at_ rows=>?_
  have hrow:=qNT rows
  have hL:H1 (s1.heap.push (revObj a ((its.toArray.size:Int) - 1))).objs.size=none:=I2.hok.fresh (aK _)
  have hne:s1.heap.objs.size≠(s1.heap.push (revObj a ((its.toArray.size:Int) - 1))).objs.size:=by rw [Heap.size_push];omega
  have hz2:xs.reverse.length<=sizeLine:=by rw [List.length_reverse];exact hz
  have I3:Inv X pins Z (aA H1 (s1.heap.push (revObj a ((its.toArray.size:Int) - 1))).objs.size (.lst xs.reverse)) { s1 with heap:=(s1.heap.push (revObj a ((its.toArray.size:Int) - 1))).push { cls:=.type "list",dict:=none,data:=.seq row m,slots:=#[] } }:=
   I2.laid (t':=s1.toks) (λb o eb=>Qg _ eb) (aK _) ⟨hz2,row.toList,m,by rw [hrow];exact rv.reverse,by have:=Qh (s1.heap.push (revObj a ((its.toArray.size:Int) - 1))) (o:={ cls:=.type "list",dict:=none,data:=.seq row m,slots:=#[] }) rfl;simpa using this⟩
  have I4:=I3.turned (h':=hp) (t':=k) (it:=s1.heap.objs.size) (λb o hb eb=>by
   by_cases z:b=(s1.heap.push (revObj a ((its.toArray.size:Int) - 1))).objs.size
   ·subst z
    have e2:=Qh (s1.heap.push (revObj a ((its.toArray.size:Int) - 1))) (o:={ cls:=.type "list",dict:=none,data:=.seq row m,slots:=#[] }) rfl
    rw [e2] at eb
    cases eb
    exact at_
   ·refine keep b o hb ?_
    rcases Heap.get?_push_cases eb with ⟨y,_⟩|y
    ·exact Qn y z
    ·exact y) (by rw [aX hne];exact hit) f1 f3 f4 f5
  exact⟨.ref _,_,I4,rfl,q _ hL⟩
end
end Dw
namespace Dw
open PySem PySem.Spec PyProof.Rows L2
section
variable {call:Nat->List D->Option R}{G:Gx}{k:Nat}{X:Cx}{sc:Scope}{N:List Str}
theorem RPs.one {K:Qb}{H:Hp}{F:Fz}{d:D}{vs:List V}(h:RPs K H F [d] vs):∃v,vs=[v]/\RP K H F d v:=by
 obtain⟨v,r,e,h1,h2⟩:=h
 cases h2
 exact⟨v,e,h1⟩
theorem RPs.two {K:Qb}{H:Hp}{F:Fz}{d e:D}{vs:List V}(h:RPs K H F [d,e] vs):∃v w,vs=[v,w]/\RP K H F d v/\RP K H F e w:=by
 obtain⟨v,r,e1,h1,h2⟩:=h
 obtain⟨w,e2,h3⟩:=RPs.one h2
 exact⟨v,w,by rw [e1,e2],h1,h3⟩
theorem RPs.three {K:Qb}{H:Hp}{F:Fz}{d e f:D}{vs:List V}(h:RPs K H F [d,e,f] vs):∃v w u,vs=[v,w,u]/\RP K H F d v/\RP K H F e w/\RP K H F f u:=by
 obtain⟨v,r,e1,h1,h2⟩:=h
 obtain⟨w,u,e2,h3,h4⟩:=RPs.two h2
 exact⟨v,w,u,by rw [e1,e2],h1,h3,h4⟩
variable (X) in
def ip (b:BI) (r:List V->Hp->VK->Prop):Prop:=∀(H:Hp) (F:Fz) (ds:List D) (vs:List V) (z:R) (Q:VK),mz b ds=some z->(∀a,H a=none->¬F a)->RPs X.K H F ds vs->(∀v H' F',Gr H F H' F'->RR X.K H H' F' z v->Q v H')->r vs H Q
theorem qR5:ip X .len (λxs H Q=>∃p ys,xs=[.ref p]/\(SqL X.K H p ys∨SqT X.K H p ys)/\Q (.int ys.length) H):=by
 intro H F ds vs z Q hz dom hs kk
 match ds,hz,hs with
 | [.tup xs],hz,hs =>
  cases hz
  obtain⟨v,rfl,hv⟩:=RPs.one hs
  obtain⟨p,ws,rfl,h1,h2⟩:=hv.tup
  exact⟨p,ws,rfl,.inr h1,by rw [RDs.length h2];exact kk _ H F (Gr.refl dom) rfl⟩
 | [.lst xs],hz,hs =>
  cases hz
  obtain⟨v,rfl,hv⟩:=RPs.one hs
  obtain⟨p,ws,rfl,h1,h2⟩:=hv.lst
  exact⟨p,ws,rfl,.inl h1,by rw [RDs.length h2];exact kk _ H F (Gr.refl dom) rfl⟩
theorem qR3:ip X .min (λxs H Q=>(∃i j,xs=[.int i,.int j]/\Q (.int (if j<i then j else i)) H)∨∃(p:Addr) (is:List Int) (m:Int),xs=[.ref p]/\SqL X.K H p (is.map V.int)/\rS is=some m/\Q (.int m) H):=by
 intro H F ds vs z Q hz dom hs kk
 match ds,hz,hs with
 | [.int i,.int j],hz,hs =>
  cases hz
  obtain⟨v,w,rfl,hv,hw⟩:=RPs.two hs
  exact .inl ⟨i,j,by rw [hv.int,hw.int],kk _ H F (Gr.refl dom) rfl⟩
 | [.lst xs],hz,hs =>
  have hz:tN xs=some z:=hz
  unfold tN at hz
  split at hz
  ·rename_i is e1
   obtain⟨m,e3,e4⟩:=yae.mp hz
   subst e4
   obtain⟨v,rfl,hv⟩:=RPs.one hs
   obtain⟨p,ws,rfl,h1,h2⟩:=hv.lst
   rw [RDs.ints h2 e1] at h1
   exact .inr ⟨p,is,m,rfl,h1,e3,kk _ H F (Gr.refl dom) rfl⟩
  ·cases hz
theorem qR4:ip X .max (λxs H Q=>((∃i j,xs=[.int i,.int j]/\Q (.int (if j > i then j else i)) H)∨∃i j k,xs=[.int i,.int j,.int k]/\Q (.int (if k > (if j > i then j else i) then k else (if j > i then j else i))) H)∨∃(p:Addr) (is:List Int) (m:Int),xs=[.ref p]/\SqL X.K H p (is.map V.int)/\rR is=some m/\Q (.int m) H):=by
 intro H F ds vs z Q hz dom hs kk
 match ds,hz,hs with
 | [.int i,.int j],hz,hs =>
  cases hz
  obtain⟨v,w,rfl,hv,hw⟩:=RPs.two hs
  exact .inl (.inl ⟨i,j,by rw [hv.int,hw.int],kk _ H F (Gr.refl dom) rfl⟩)
 | [.int i,.int j,.int l],hz,hs =>
  cases hz
  obtain⟨v,w,u,rfl,hv,hw,hu⟩:=RPs.three hs
  exact .inl (.inr ⟨i,j,l,by rw [hv.int,hw.int,hu.int],kk _ H F (Gr.refl dom) rfl⟩)
 | [.lst xs],hz,hs =>
  obtain⟨is,e1,e2⟩:=ak hz
  obtain⟨m,e3,e4⟩:=yae.mp e2
  subst e4
  obtain⟨v,rfl,hv⟩:=RPs.one hs
  obtain⟨p,ws,rfl,h1,h2⟩:=hv.lst
  rw [RDs.ints h2 e1] at h1
  exact .inr ⟨p,is,m,rfl,h1,e3,kk _ H F (Gr.refl dom) rfl⟩
theorem qR2:ip X .sum (λxs H Q=>∃(p:Addr) (is:List Int),xs=[.ref p]/\SqL X.K H p (is.map V.int)/\Q (.int is.sum) H):=by
 intro H F ds vs z Q hz dom hs kk
 match ds,hz,hs with
 | [.lst xs],hz,hs =>
  obtain⟨is,e1,e2⟩:=yae.mp hz
  subst e2
  obtain⟨v,rfl,hv⟩:=RPs.one hs
  obtain⟨p,ws,rfl,h1,h2⟩:=hv.lst
  rw [RDs.ints h2 e1] at h1
  exact⟨p,is,rfl,h1,kk _ H F (Gr.refl dom) rfl⟩
theorem qR8:ip X .all (λxs H Q=>∃(p:Addr) (bs:List Bool),xs=[.ref p]/\SqL X.K H p (bs.map V.bl)/\Q (.bl (bs.all id)) H):=by
 intro H F ds vs z Q hz dom hs kk
 match ds,hz,hs with
 | [.lst xs],hz,hs =>
  obtain⟨is,e1,e2⟩:=yae.mp hz
  subst e2
  obtain⟨v,rfl,hv⟩:=RPs.one hs
  obtain⟨p,ws,rfl,h1,h2⟩:=hv.lst
  rw [RDs.bls h2 e1] at h1
  exact⟨p,is,rfl,h1,kk _ H F (Gr.refl dom) rfl⟩
theorem qR7:ip X .any (λxs H Q=>∃(p:Addr) (bs:List Bool),xs=[.ref p]/\SqL X.K H p (bs.map V.bl)/\Q (.bl (bs.any id)) H):=by
 intro H F ds vs z Q hz dom hs kk
 match ds,hz,hs with
 | [.lst xs],hz,hs =>
  obtain⟨is,e1,e2⟩:=yae.mp hz
  subst e2
  obtain⟨v,rfl,hv⟩:=RPs.one hs
  obtain⟨p,ws,rfl,h1,h2⟩:=hv.lst
  rw [RDs.bls h2 e1] at h1
  exact⟨p,is,rfl,h1,kk _ H F (Gr.refl dom) rfl⟩
theorem RDs.pick {K:Qb}{H:Hp}{F:Fz}:∀{ds:List D}{vs:List V},RDs K H F ds vs->∀(k:Nat),k<vs.length->RD K H F (ds.getD k .non) (vs.getD k .non)
 | [],vs,h,k,hk=>by cases h;exact Qn hk (sS _)
 | d::ds,vs,h,k,hk=>by
  obtain⟨v,r,rfl,h1,h2⟩:=h
  cases k with
  | zero=>exact h1
  | succ k=>exact RDs.pick h2 k (sG hk)
theorem RDs.picks {K:Qb}{H:Hp}{F:Fz}{ds:List D}{vs:List V}(h:RDs K H F ds vs):∀(ks:List Nat),(∀k∈ks,k<vs.length)->RDs K H F (ks.map λk=>ds.getD k .non) (ks.map λk=>vs.getD k .non)
 | [],_=>rfl
 | k::ks,hk=>⟨_,_,rfl,h.pick k (hk k dz),h.picks ks λj hj=>hk j (dM _ hj)⟩
theorem RDs.tps {K:Qb}{H:Hp}{F:Fz}:∀{ds:List D}{vs:List V}{ts:List (List Int)},RDs K H F ds vs->lN ds=some ts->TpV K H vs ts
 | [],vs,ts,h,e=>by cases h;cases e;trivial
 | d::ds,vs,ts,h,e=>by
  obtain⟨v,r,rfl,h1,h2⟩:=h
  cases d<;>first|cases e|skip
  obtain⟨is,e1,e2⟩:=ak e
  obtain⟨rs,e3,rfl⟩:=yae.mp e2
  obtain⟨p,ws,rfl,g1,g2⟩:=h1
  rw [RDs.ints g2 e1] at g1
  exact⟨⟨p,rfl,g1⟩,RDs.tps h2 e3⟩
theorem qJF:ip X .sorted (λxs H Q=>(∃(p:Addr) (is:List Int),xs=[.ref p]/\(SqL X.K H p (is.map V.int)∨SqT X.K H p (is.map V.int))/\is.length<64/\∀l,H l=none->Q (.ref l) (aA H l (.lst ((fF is).map V.int)))) ∨
  ∃(p:Addr) (vs:List V) (is:List (List Int)),xs=[.ref p]/\SqL X.K H p vs/\TpV X.K H vs is/\(∀t∈is,t≠[])/\is.length<64/\∀l,H l=none->Q (.ref l) (aA H l (.lst ((dW is).map λk=>vs.getD k .non)))):=by
 intro H F ds vs z Q hz dom hs kk
 match ds,hz,hs with
 | [.lst xs],hz,hs =>
  obtain⟨v,rfl,hv⟩:=RPs.one hs
  obtain⟨p,ws,rfl,h1,h2⟩:=hv.lst
  have hz':lr xs=some z:=hz
  unfold lr at hz'
  split at hz'
  ·rename_i is e1
   obtain⟨h64,rfl⟩:=cA hz'
   rw [RDs.ints h2 e1] at h1
   refine .inl ⟨p,is,rfl,.inl h1,h64,λl hl=>?_⟩
   obtain⟨g,rr⟩:=gE dom hl (RDs.of_ints (fF is))
   exact kk _ _ _ g rr
  ·obtain⟨is,e1,e2⟩:=ak hz'
   obtain⟨h64,rfl⟩:=cA e2
   have hh:=RDs.tps h2 e1
   refine .inr ⟨p,ws,is,rfl,h1,hh,h64.2,h64.1,λl hl=>?_⟩
   obtain⟨g,rr⟩:=gE dom hl (h2.picks (dW is) λk hk=>by rw [hh.len];simpa using ((oj (λi j=>dI (is.getD i []) (is.getD j [])) is.length:(dW is).Perm _)).mem_iff.mp hk)
   exact kk _ _ _ g rr
 | [.tup xs],hz,hs =>
  obtain⟨is,e1,e2⟩:=ak hz
  obtain⟨h64,rfl⟩:=cA e2
  obtain⟨v,rfl,hv⟩:=RPs.one hs
  obtain⟨p,ws,rfl,h1,h2⟩:=hv.tup
  rw [RDs.ints h2 e1] at h1
  refine .inl ⟨p,is,rfl,.inr h1,h64,λl hl=>?_⟩
  obtain⟨g,rr⟩:=gE dom hl (RDs.of_ints (fF is))
  exact kk _ _ _ g rr
theorem qLB:ip X .tuple (λxs H Q=>∃p ys,xs=[.ref p]/\((SqL X.K H p ys/\∀l,H l=none->Q (.ref l) (aA H l (.tup ys)))∨(SqT X.K H p ys/\Q (.ref p) H))):=by
 intro H F ds vs z Q hz dom hs kk
 match ds,hz,hs with
 | [.lst xs],hz,hs =>
  cases hz
  obtain⟨v,rfl,hv⟩:=RPs.one hs
  obtain⟨p,ws,rfl,h1,h2⟩:=hv.lst
  refine⟨p,ws,rfl,.inl ⟨h1,λl hl=>?_⟩⟩
  obtain⟨g,rr⟩:=lY dom hl h2
  exact kk _ _ _ g rr
 | [.tup xs],hz,hs =>
  cases hz
  obtain⟨v,rfl,hv⟩:=RPs.one hs
  obtain⟨p,ws,rfl,h1,h2⟩:=hv.tup
  exact⟨p,ws,rfl,.inr ⟨h1,kk _ H F (Gr.refl dom) ⟨p,ws,rfl,h1,h2⟩⟩⟩
theorem qO8:ip X .list (λxs H Q=>∃p ys,xs=[.ref p]/\(SqL X.K H p ys∨SqT X.K H p ys)/\∀l,H l=none->Q (.ref l) (aA H l (.lst ys))):=by
 intro H F ds vs z Q hz dom hs kk
 match ds,hz,hs with
 | [.lst xs],hz,hs =>
  cases hz
  obtain⟨v,rfl,hv⟩:=RPs.one hs
  obtain⟨p,ws,rfl,h1,h2⟩:=hv.lst
  refine⟨p,ws,rfl,.inl h1,λl hl=>?_⟩
  obtain⟨g,rr⟩:=gE dom hl h2
  exact kk _ _ _ g rr
 | [.tup xs],hz,hs =>
  cases hz
  obtain⟨v,rfl,hv⟩:=RPs.one hs
  obtain⟨p,ws,rfl,h1,h2⟩:=hv.tup
  refine⟨p,ws,rfl,.inr h1,λl hl=>?_⟩
  obtain⟨g,rr⟩:=gE dom hl h2
  exact kk _ _ _ g rr
theorem qR6:ip X .int (λxs H Q=>(∃i,xs=[.int i]/\Q (.int i) H)∨∃k,xs=[.bl k]/\Q (.int (if k then 1 else 0)) H):=by
 intro H F ds vs z Q hz dom hs kk
 match ds,hz,hs with
 | [.bl b],hz,hs =>
  cases hz
  obtain⟨v,rfl,hv⟩:=RPs.one hs
  exact .inr ⟨b,by rw [hv.bl],kk _ H F (Gr.refl dom) rfl⟩
 | [.int i],hz,hs =>
  cases hz
  obtain⟨v,rfl,hv⟩:=RPs.one hs
  exact .inl ⟨i,by rw [hv.int],kk _ H F (Gr.refl dom) rfl⟩
theorem qRV:Qo (Qa "len")=some (.builtin "len"):=by decide +kernel
theorem qRT:Qo (Qa "min")=some (.builtin "min"):=by decide +kernel
theorem qRU:Qo (Qa "max")=some (.builtin "max"):=by decide +kernel
theorem qRR:Qo (Qa "sum")=some (.builtin "sum"):=by decide +kernel
theorem qRY:Qo (Qa "all")=some (.builtin "all"):=by decide +kernel
theorem qRX:Qo (Qa "any")=some (.builtin "any"):=by decide +kernel
theorem qJB:Qo (Qa "sorted")=some (.builtin "sorted"):=by decide +kernel
theorem qRW:Qo (Qa "isinstance")=some (.builtin "isinstance"):=by decide +kernel
theorem Cv:Qo (Qa "tuple")=some (.type "tuple"):=by decide +kernel
theorem qZ:Qo (Qa "list")=some (.type "list"):=by decide +kernel
theorem Ay:Qo (Qa "int")=some (.type "int"):=by decide +kernel
theorem qO7:Qo (Qa "bool")=some (.type "bool"):=by decide +kernel
theorem qRS:Qo (Qa "str")=some (.type "str"):=by decide +kernel
theorem rH (h:fN x=true):x≠"__name__"/\(x == ("__debug__":Str))=false:=by
 unfold fN at h
 simp only [aY,bne_iff_ne,ne_eq] at h
 exact⟨h.2,beq_eq_false_iff_ne.mpr h.1.1⟩
theorem fM (h:x=Qa s) (hs:s∈["len","abs","min","max","sum","all","tuple","list","int","bool","str","isinstance","range","zip","reversed","sorted","enumerate","any"]):x∈du:=by
 subst h
 exact yaO.mpr ⟨s,hs,rfl⟩
theorem qHW (g:XG call G k X sc N) (hb:tW x es.length=some b) (hd:G.defs.lookup x=none) (hg:bD sc x=true) (hp:fN x=true) (hn:es.all di=true) (h:iL call X es cs) :
  SndE call X (.Call (.Name x p) es [] pos) (.bi b cs):=by
 obtain⟨h1,h2⟩:=rH hp
 have gx:=g.gl x hg
 have bl:∀s:String,x=Qa s->s∈["len","abs","min","max","sum","all","tuple","list","int","bool","str","isinstance","range","zip","reversed","sorted","enumerate","any"]->X.mg x=none:=λs e hs=>g.blt x hd (fM e hs)
 have ne:∀{n:Nat},es.length=n+1->es≠[]:=λe z=>by rw [z] at e;cases e
 unfold tW at hb
 split at hb
 ·rename_i e
  split at hb
  ·rename_i hl
   cases hb
   exact kj qFd gx (bl _ e (by decide)) (by rw [e];exact qRV) h1 h2 hn (ne hl) h qR5
  ·cases hb
 split at hb
 ·rename_i e
  split at hb
  ·rename_i hl
   cases hb
   exact kj ((qJm g.calm).or (qJn g.calm)) gx (bl _ e (by decide)) (by rw [e];exact qRT) h1 h2 hn (hl.elim (λz=>ne z) (λz=>ne z)) h qR3
  ·cases hb
 split at hb
 ·rename_i e
  split at hb
  ·rename_i hl
   cases hb
   exact kj (((qJp g.calm).or (qJo g.calm)).or (qJq g.calm)) gx (bl _ e (by decide)) (by rw [e];exact qRU) h1 h2 hn (hl.elim (λz=>ne z) (λz=>z.elim (λz=>ne z) (λz=>ne z))) h qR4
  ·cases hb
 split at hb
 ·rename_i e
  split at hb
  ·rename_i hl
   cases hb
   exact kj (qJk g.calm) gx (bl _ e (by decide)) (by rw [e];exact qRR) h1 h2 hn (ne hl) h qR2
  ·cases hb
 split at hb
 ·rename_i e
  split at hb
  ·rename_i hl
   cases hb
   exact kj (qJu g.calm) gx (bl _ e (by decide)) (by rw [e];exact qRY) h1 h2 hn (ne hl) h qR8
  ·cases hb
 split at hb
 ·rename_i e
  split at hb
  ·rename_i hl
   cases hb
   exact vw qEm gx (bl _ e (by decide)) (by rw [e];exact Cv) h1 h2 hn (ne hl) h qLB
  ·cases hb
 split at hb
 ·rename_i e
  split at hb
  ·rename_i hl
   cases hb
   exact vw qFc gx (bl _ e (by decide)) (by rw [e];exact qZ) h1 h2 hn (ne hl) h qO8
  ·cases hb
 split at hb
 ·rename_i e
  split at hb
  ·rename_i hl
   cases hb
   exact vw qJs gx (bl _ e (by decide)) (by rw [e];exact Ay) h1 h2 hn (ne hl) h qR6
  ·cases hb
 unfold zD at hb
 split at hb
 ·rename_i e
  split at hb
  ·rename_i hl
   cases hb
   exact kj (qJt g.calm) gx (bl _ e (by decide)) (by rw [e];exact qRX) h1 h2 hn (ne hl) h qR7
  ·cases hb
 split at hb
 ·rename_i e
  split at hb
  ·rename_i hl
   cases hb
   exact kj (qKR qFb qFa) gx (bl _ e (by decide)) (by rw [e];exact qJB) h1 h2 hn (ne hl) h qJF
  ·cases hb
 ·cases hb
theorem qMU (h:qp t=some ty):Qo t=some (.type (nL ty))/\t∈du/\fN t=true:=by
 unfold qp at h
 split at h
 ·rename_i e;subst e;cases h;exact⟨Ay,fM rfl (by decide),by decide +kernel⟩
 split at h
 ·rename_i e;subst e;cases h;exact⟨qO7,fM rfl (by decide),by decide +kernel⟩
 split at h
 ·rename_i e;subst e;cases h;exact⟨Cv,fM rfl (by decide),by decide +kernel⟩
 split at h
 ·rename_i e;subst e;cases h;exact⟨qZ,fM rfl (by decide),by decide +kernel⟩
 split at h
 ·rename_i e;subst e;cases h;exact⟨qRS,fM rfl (by decide),by decide +kernel⟩
 ·cases h
theorem qNE (g:XG call G k X sc N) (hf:f=Qa "isinstance") (hd:G.defs.lookup f=none) (hdt:G.defs.lookup t=none) (hg:bD sc f=true) (hgt:bD sc t=true) (ht:qp t=some ty) (hn:di a=true) (h:dO call X a ca) :
  SndE call X (.Call (.Name f p) [a,.Name t p2] [] pos) (.isi ca ty):=by
 obtain⟨b1,b2,b3⟩:=qMU ht
 obtain⟨n1,n2⟩:=rH b3
 have hm:X.mg f=none:=g.blt f hd (fM hf (by decide))
 obtain⟨ta,pa,qa⟩:=h
 have pt:PE X (.Name t p2) (tC (.ty (nL ty))):=qOa (g.gl t hgt) (g.blt t hdt b2) b1 rfl n1 n2
 refine⟨_,Ct qJr (g.gl f hg) hm (by rw [hf];exact qRW) (fy pa (fy pt gC) (cR hn)) (by rw [hf];decide +kernel) (by rw [hf];decide +kernel) (cR hn) (by rfl),λGe H F Z τ z Q hz hs kk=>?_⟩
 obtain⟨x,ex,ez⟩:=ak hz
 have ez0:tG ty x=some z:=ez
 obtain⟨b,rfl⟩:∃b,z=(false,.bl b):=by cases x<;>first|(cases ez;exact⟨_,rfl⟩)|cases ez
 refine qa Ge H F Z τ x _ ex hs λv H1 F1 g1 rx=>?_
 exact⟨v,x,F1,ty,b,rfl,rx,ez0,kk _ H1 F1 g1 rfl⟩
theorem qFO:Qo (Qa "reversed")=some (.type "reversed"):=by decide +kernel
theorem qKp (g:XG call G k X sc N) (hf:f=Qa "list") (hh:h=Qa "reversed") (hd:G.defs.lookup f=none) (hdh:G.defs.lookup h=none) (hg:bD sc f=true) (hgh:bD sc h=true) (hn:di e=true) (hs:dO call X e c) :
  SndE call X (.Call (.Name f p) [.Call (.Name h p2) [e] [] pos2] [] pos) (.revL c):=by
 obtain⟨t,pt,qt⟩:=hs
 refine⟨_,qGU g.calm (g.gl f hg) (g.blt f hd (fM hf (by decide))) (by rw [hf];exact qZ) (by rw [hf];decide +kernel) (by rw [hf];decide +kernel) (g.gl h hgh) (g.blt h hdh (fM hh (by decide))) (by rw [hh];exact qFO) (by rw [hh];decide +kernel) (by rw [hh];decide +kernel) pt (cR hn),λGe H F Z τ z Q hz hs kk=>?_⟩
 obtain⟨d,e1,hz⟩:=ak hz
 refine qt Ge H F Z τ d _ e1 hs λv H1 F1 g1 rx=>?_
 cases d with
 | lst xs =>
  obtain⟨h1,rfl⟩:=cA (show (if xs.length<=lim then some (true,D.lst xs.reverse) else none)=some z from hz)
  obtain⟨a,vs,rfl,hl,hr⟩:=rx.lst
  refine⟨a,vs,rfl,hl,λl hl2=>?_⟩
  obtain⟨g4,rr⟩:=gE g1.dom hl2 (RDs.rev hr)
  exact kk _ _ _ (g1.trans g4) (rr.back g1.same)
 | _=>cases hz
theorem qJl:CallR X (.type "range") (λxs H Q=>∃i j:Int,xs=[.int i,.int j]/\∀a,H a=none->Q (.ref a) (aA H a (.rng i j))):=by
 intro pins s Z H xs us Q I r h
 obtain⟨i,j,rfl,q⟩:=h
 cases r with
 | cons r1 rr =>
  cases rr with
  | cons r2 rr =>
   cases rr
   obtain⟨t,rfl⟩:=r1
   obtain⟨t',rfl⟩:=r2
   exact call_range_2 ⟨.ref s.heap.objs.size,_,I.laid (t':=s.toks+1) (o:=.rng i j) (λb u e=>Qg _ e) (aK _) ⟨_,_,_,Qh _ rfl⟩,rfl,q _ (I.hok.fresh (aK _))⟩
theorem B8:∀{n:Nat}{l:List Value}(m:Nat),l.length=n->(∀(j:Nat) (v:Value),l[j]?=some v->∃t,v=Value.int (i+((m+j:Nat):Int) * 1) t)->Vals ((List.range' m n).map λk=>V.int (i+(k:Nat))) l
 | 0,[],_,_,_=>.nil
 | n+1,v::l,m,hl,h=>by
  rw [List.range'_succ,gQ]
  refine .cons ?_ (B8 (m+1) (by simpa using hl) λj u hu=>?_)
  ·obtain⟨t,rfl⟩:=h 0 v rfl
   exact⟨t,by simp⟩
  ·obtain⟨t,rfl⟩:=h (j+1) u hu
   exact⟨t,by congr 2;omega⟩
theorem qEn (hc:X.calm=true):CallR X (.type "list") (λxs H Q=>∃(a:Addr) (i j:Int),xs=[.ref a]/\H a=some (.rng i j)/\(-(2^62)<=i/\i<2^62/\-(2^62)<=j/\j<2^62/\(j - i).toNat<=lim)/\∀l,H l=none->Q (.ref l) (aA H l (.lst ((List.range (j - i).toNat).map λk=>V.int (i+(k:Nat)))))):=by
 intro pins s Z H xs us Q I r h
 obtain⟨a,i,j,rfl,ha,⟨b1,b2,b3,b4,b5⟩,q⟩:=h
 obtain⟨u,rfl,ru⟩:=eY r
 cases ru
 obtain⟨t,u,v,e⟩:=I.hok a _ ha
 refine call_list_range (n:=(j - i).toNat) (I.ok.hd hc) e (small_one b1 b2 b3 b4) (by rw [rangeSize_one];split<;>omega) b5 λh' tk row m keep at_ its=>?_
 refine⟨.ref s.heap.objs.size,_,I.laid (t':=tk) (o:=.lst ((List.range (j - i).toNat).map λk=>V.int (i+(k:Nat)))) keep (aK _) ⟨?_,row.toList,m,?_,by simpa using at_⟩,rfl,q _ (I.hok.fresh (aK _))⟩
 ·rw [fV,List.length_range];exact dR b5 (by decide +kernel)
 ·rw [List.range_eq_range']
  refine B8 0 (by simpa using its.1) λk v hv=>?_
  obtain⟨t,e⟩:=its.2 k v (by simpa using hv)
  exact⟨t,by rw [e];simp⟩
theorem qIx (h:ud x y=some z):∃a b:Int,x=.int a/\y=.int b/\(-(2^62)<=a/\a<2^62/\-(2^62)<=b/\b<2^62/\(b - a).toNat<=lim)/\z=(true,.lst ((List.range (b - a).toNat).map λi=>.int (a+(i:Nat)))):=by
 unfold ud at h
 split at h
 ·obtain⟨h1,rfl⟩:=cA h
  exact⟨_,_,rfl,rfl,h1,rfl⟩
 ·cases h
theorem qKs (g:XG call G k X sc N) (hf:f=Qa "list") (hh:h=Qa "range") (hd:G.defs.lookup f=none) (hdh:G.defs.lookup h=none) (hg:bD sc f=true) (hgh:bD sc h=true) (hn:di e=true) (hn':di e'=true) (hs:dO call X e c) (hs':dO call X e' c') :
  SndE call X (.Call (.Name f p) [.Call (.Name h p2) [e,e'] [] pos2] [] pos) (.lrng c c'):=by
 obtain⟨t,pt,qt⟩:=hs
 obtain⟨t',pt',qt'⟩:=hs'
 have st:=cR (env:=X.env) (es:=[e']) hn
 have st':=cR (env:=X.env) (es:=[]) hn'
 refine⟨_,vo (qEn g.calm) (g.gl f hg) (g.blt f hd (fM hf (by decide))) (by rw [hf];exact qZ) (fy (vo qJl (g.gl h hgh) (g.blt h hdh (fM hh (by decide))) (by rw [hh];exact boot_range) (fy pt (fy pt' gC st') st) (by rw [hh];decide +kernel) (by rw [hh];decide +kernel) st (by rw [st'];rfl)) gC) (by rw [hf];decide +kernel) (by rw [hf];decide +kernel),λGe H F Z τ z Q hz hs kk=>?_⟩
 obtain⟨d,e1,hz⟩:=ak hz
 obtain⟨d',e2,hz⟩:=ak hz
 refine qt Ge H F Z τ d _ e1 hs λv H1 F1 g1 rx=>?_
 refine qt' Ge H1 F1 Z τ d' _ e2 (hs.grow g1) λv' H2 F2 g2 rx'=>?_
 obtain⟨a,b,rfl,rfl,h1,rfl⟩:=qIx hz
 obtain rfl:=rx.int
 obtain rfl:=rx'.int
 refine⟨a,b,rfl,λl hl=>⟨l,a,b,rfl,ef,h1,λl2 hl2=>?_⟩⟩
 have g3:Gr H F (aA H2 l (.rng a b)) F2:=(g1.trans g2).trans (Gr.laid g2.dom hl)
 have hr:RDs X.K (aA H2 l (.rng a b)) F2 ((List.range (b - a).toNat).map λi:Nat=>D.int (a+(i:Nat))) ((List.range (b - a).toNat).map λk:Nat=>V.int (a+(k:Nat))):=by
  have:=RDs.of_ints (K:=X.K) (H:=aA H2 l (.rng a b)) (F:=F2) ((List.range (b - a).toNat).map λi:Nat=>a+(i:Nat))
  rwa [List.map_map,List.map_map] at this
 obtain⟨g4,rr⟩:=gE g3.dom hl2 hr
 exact kk _ _ _ (g3.trans g4) (rr.back g3.same)
theorem qK7 (h:tM G sc f as=some (a,b)):∃y p2 pos2,as=[.Call (.Name y p2) [a,b] [] pos2]/\f=Qa "list"/\y=Qa "range"/\bD sc y=true/\G.defs.lookup y=none:=by
 unfold tM at h
 split at h
 ·split at h
  ·rename_i hq
   simp only [aY] at hq
   cases h
   exact⟨_,_,_,rfl,by simpa using hq.1.1.1,by simpa using hq.1.1.2,hq.1.2,by simpa using hq.2⟩
  ·cases h
 ·cases h
theorem qH4 (h:uk G sc f as=some a):∃y p2 pos2,as=[.Call (.Name y p2) [a] [] pos2]/\f=Qa "list"/\y=Qa "reversed"/\bD sc y=true/\G.defs.lookup y=none/\di a=true:=by
 unfold uk at h
 split at h
 ·split at h
  ·rename_i hq
   simp only [aY] at hq
   cases h
   exact⟨_,_,_,rfl,by simpa using hq.1.1.1,by simpa using hq.1.1.2,hq.1.2,by simpa using hq.2,rfl⟩
  ·cases h
 ·cases h
end
end Dw
namespace Dw
open PySem PySem.Spec PyProof.Rows L2
theorem vq:∀(ns:List Str) (ws:List V) (fs:List (Str×V)) (g:Str),g∉ns->(jf ns ws fs).lookup g=fs.lookup g
 | [],_,_,_,_=>rfl
 | f::ns,[],_,_,_=>rfl
 | f::ns,w::ws,fs,g,h=>by
  show (jf ns ws (cY f w fs)).lookup g=_
  rw [vq ns ws _ g (λz=>h (dM _ z)),rN,Qm (λz=>h (by rw [z];exact dz))]
theorem B7:∀(ns:List Str) (ws:List V) (fs:List (Str×V)) (j:Nat) (f:Str),ns.Nodup->ws.length=ns.length->ns[j]?=some f->∃u,(jf ns ws fs).lookup f=some u/\ws[j]?=some u
 | [],_,_,j,f,_,_,h=>by simp at h
 | g::ns,[],_,j,f,_,hl,_=>by simp at hl
 | g::ns,w::ws,fs,j,f,nd,hl,h=>by
  rw [yba] at nd
  cases j with
  | zero =>
   have h:g=f:=by simpa using h
   subst h
   refine⟨w,?_,rfl⟩
   show (jf ns ws (cY g w fs)).lookup g=_
   rw [vq ns ws _ g nd.1,rN,Ql rfl]
  | succ j =>
   obtain⟨u,h1,h2⟩:=B7 ns ws (cY g w fs) j f nd.2 (by simpa using hl) (by simpa using h)
   exact⟨u,h1,by simpa using h2⟩
theorem CO (f:Str) (v:V):∀fs:List (Str×V),(cY f v fs).length<=fs.length+1
 | []=>by simp [cY]
 | (g,x)::r=>by
  unfold cY
  split
  ·simp
  ·have:=CO f v r;simp;omega
section
variable {call:Nat->List D->Option R}{G:Gx}{k:Nat}{X:Cx}{sc:Scope}{N:List Str}
theorem uT (h:j6 e=true) (m:Str) (env:Env):attributeBase e m env (eval e env)=eval e env:=by
 cases e<;>first|rfl|cases h
theorem qNG (hb:j6 a=true) (h:SndE call X a ca):SndE call X (.Attribute a f pos) (.fld ca j f):=by
 obtain⟨t,pt,qt⟩:=h
 refine⟨_,qQC pt (uT hb _ _),λGe H F Z τ r Q hr hs kk=>?_⟩
 rw [Bs] at hr
 obtain⟨⟨b,d⟩,ey,hr⟩:=ak hr
 cases d with
 | obj ns ds =>
  have hr:(if ns.ns[j]?=some f then (ds[j]?).map (false,·) else none)=some r:=hr
  by_cases hf:ns.ns[j]?=some f
  ·rw [Ql hf] at hr
   cases ed:ds[j]? with
   | none=>rw [ed] at hr;cases hr
   | some d =>
    rw [ed] at hr
    cases hr
    refine qt Ge H F Z τ _ _ ey hs λv H1 F1 g1 rr=>?_
    obtain⟨a,vs,rfl,⟨dx,fs,o2,o3,o4,o5⟩,o6⟩:=rr.look.obj
    obtain⟨n1,u,q1,q2⟩:=o4 j f hf
    obtain⟨v',w1,w2⟩:=RDs.get o6 ed
    rw [q2] at w1
    cases w1
    exact⟨a,ns.c,dx,fs,u,rfl,o2,o3,n1,q1,kk u H1 F1 g1 w2⟩
  ·rw [Qm hf] at hr
   cases hr
 | _=>cases hr
theorem qKg:∀{es:List Expr}{env:Env}{pos:Pos},es.all di=true->(backTo pos (starEach es env)).all (λx=>!x.1)=true:=λ{es env pos} h=>by
 have:=ku (env:=env) (pos:=pos) h
 rw [<-List.not_any_eq_all_not,this]
 rfl
theorem Bg (hb:attributeBase o m env (eval o env)=eval o env) (few:methodCallForm (args.length+([]:List Keyword).length) (backTo pos2 (starEach args env)) (backToKw pos2 (keywordEach [] env))=true) (hln:(p2.endLine == pos2.line)=true) :
  eval (.Call (.Attribute o m p2) args [] pos2) env=(do
   let ov <-eval o env
   standAt p2.atName
   let (f,first) <-holding [ov] (getMethod ov m (do return (<-importBound o env).getD true))
   callWith pos2 f first (backTo pos2 (starEach args env)) (backToKw pos2 (keywordEach [] env))):=by
 have e1:eval (.Call (.Attribute o m p2) args [] pos2) env=(do
   let ov <-attributeBase o m env (eval o env)
   standAt p2.atName
   methodCall o m p2 pos2 env ov (args.length+([]:List Keyword).length) (backTo pos2 (starEach args env)) (backToKw pos2 (keywordEach [] env))):=rfl
 rw [e1,hb]
 unfold methodCall calleeOf methodCallPos
 rw [few,hln]
 rfl
theorem qKO {C:Addr}{p pos:Pos}(M:Mk0 X.K C) (hg:Gl X x) (hm:X.mg x=some (.ref C)) (hdb:(x == ("__debug__":Str))=false) :
  PE X (.Call (.Name x p) [] [] pos) (λ_ H Q=>∀a dx,H a=none->H dx=none->dx≠a->Q (.ref a) (aA (aA H dx (.own a)) a (.ins C dx []))):=by
 intro pins s Z H Q I h
 refine wpAny_Call_Name_kw (nR I hg hm ?_ hdb)
 refine tD I.kIn M.kp ?_
 have hq:=h (s.heap.objs.size+1) s.heap.objs.size (I.hok.fresh (Nat.le_succ _)) (I.hok.fresh (aK _)) (cD (sX _))
 have I2:=Inv.made (C:=C) I
 have Y:=sY (M:=model X.prog X.w) I.kIn M.makes
 refine wpAny_call (qIv I.kIn M.makes M.init (λself=>PySem.W.Looks.of_pure (PySem.W.oi_bind self)) ?_)
 obtain⟨hh,gg,dd,tt,oo⟩:=s
 have e2:((hh.push PySem.W.emptyDict).push (PySem.W.instObj C hh.objs.size)).get? (hh.objs.size+1)=some (PySem.W.instObj C hh.objs.size):=by
  have:=Qh (hh.push PySem.W.emptyDict) (o:=PySem.W.instObj C hh.objs.size) rfl
  rwa [Heap.size_push] at this
 have t1:PySem.W.Looks (model X.prog X.w) ((hh.push PySem.W.emptyDict).push (PySem.W.instObj C hh.objs.size)) (typeOf (.ref (hh.objs.size+1))) (.ref C):=(PySem.W.Looks.ld e2).andThen .now
 have t2:PySem.W.Looks (model X.prog X.w) ((hh.push PySem.W.emptyDict).push (PySem.W.instObj C hh.objs.size)) (isInstance (.ref (hh.objs.size+1)) (.type "object")) true:=t1.andThen (Y.top.keeps λb o e=>Qg _ (Qg _ e))
 refine PySem.codeAny_call_builtin PySem.W.oi_plain PySem.W.entry_oi (@PySem.W.check_slot (model X.prog X.w) _ _ _ "object.__init__" "object" "__init__" (.ref (hh.objs.size+1)) [] [] _ PySem.W.oi_kind PySem.W.oi_split t2 (PySem.W.oi_args (.ref (hh.objs.size+1))) ?_)
 rw [PySem.W.oi_run]
 exact Qd (And.intro rfl ⟨V.ref (hh.objs.size+1),_,I2,rfl,hq⟩)
theorem qTu (g:XG call G k X sc N) (hu:u∈G.meth) (hg:bD sc u.c=true) (hd:(u.c == ("__debug__":Str))=false) {cs:List C}{p pos:Pos}(hn:es.all di=true) (h:iF call X es cs) (hlen:cs.length=es.length) :
  ∃t:TE,PE X (.Call (.Name u.c p) es [] pos) t/\∀(Ge:Gp) (H:Hp) (F:Fz) (Z:En) (τ:L2.St) (xs:List D) (Q:VK),bO call Z cs=some xs->xs.length=u.kn.ns.length->SR X.K Ge H F Z τ ->
   (∀x H' F',Gr H F H' F'->RD X.K H' F' (.obj u.kn xs) (.ref x)->Q (.ref x) H')->t τ H Q:=by
 obtain⟨fm,fdm,psm,q1,q2,q3,q4,q7,q8,q9,kA,ow,q12⟩:=(g.meth u hu).ex
 have h2k:=g.two (λz=>by rw [z] at hu;cases hu)
 obtain⟨t,pt,q⟩:=h
 have key:∀(H:Hp) (F:Fz) (H1:Hp) (F1:Fz) (xs:List D) (vs:List V) (Q:VK),xs.length=u.kn.ns.length->Gr H F H1 F1->RDs X.K H1 F1 xs vs->(∀x H' F',Gr H F H' F'->RD X.K H' F' (.obj u.kn xs) (.ref x)->Q (.ref x) H')->∀x dx,H1 x=none->H1 dx=none->dx≠x ->
   tI X.K u.kn.ns (.ref x::(vs++[])) (aA (aA H1 dx (.own x)) x (.ins u.kn.c dx [])) (λv H2=>v=.non/\Q (.ref x) H2) E0:=λH F H1 F1 xs vs Q hl g1 rs kk x dx hx hdx hne3=>by
  have hvl:vs.length=u.kn.ns.length:=by rw [RDs.length rs,hl]
  have g2:Gr H1 F1 (aA (aA H1 dx (.own x)) x (.ins u.kn.c dx (jf u.kn.ns vs []))) F1:=(Gr.laid g1.dom hdx).trans (Gr.laid (Gr.laid g1.dom hdx).dom (by rw [aX hne3.symm];exact hx))
  refine⟨x,u.kn.c,dx,vs,by rw [i7],hvl,ef,q3,q4,rfl,?_⟩
  rw [BR]
  refine kk x _ F1 (g1.trans g2) ⟨x,vs,rfl,⟨dx,_,ef,q3,λj f hj=>⟨q4 f (pB hj),B7 _ vs [] j f q12 hvl hj⟩,λgg hgg=>?_⟩,RDs.mono g2.keep rs⟩
  rw [vq _ _ _ _ hgg]
  rfl
 rcases q2 with ⟨fi,fdi,psi,q2,q5,q6⟩|⟨hns,q2⟩
 rotate_left
 ·have e0:es=[]∨es≠[]:=by cases es<;>simp
  rcases e0 with rfl|hne
  ·refine⟨_,qKO (p:=p) (pos:=pos) q2 (g.gl _ hg) q1 hd,λGe H F Z τ xs Q ex hl hs kk=>?_⟩
   intro x dx hx hdx hne3
   have hc:cs=[]:=yaG.mp hlen
   subst hc
   cases ex
   have g2:Gr H F (aA (aA H dx (.own x)) x (.ins u.kn.c dx [])) F:=(Gr.laid hs.dom hdx).trans (Gr.laid (Gr.laid hs.dom hdx).dom (by rw [aX hne3.symm];exact hx))
   refine kk x _ F g2 ⟨x,[],rfl,⟨dx,_,ef,q3,λj f hj=>?_,λgg hgg=>rfl⟩,rfl⟩
   rw [hns] at hj
   simp at hj
  ·refine⟨λ_ _ _=>False,λ_ _ _ _ _ _ z=>z.elim,λGe H F Z τ xs Q ex hl hs kk=>?_⟩
   have h1:=BJ ex
   rw [hns,sR] at hl
   rw [hlen,hl] at h1
   exact hne (yaG.mp h1.symm)
 cases es with
 | nil =>
  refine⟨_,qKP (p:=p) (pos:=pos) q2 q6 (g.room.mono h2k) (g.gl _ hg) q1 q5 .nil nz hd,λGe H F Z τ xs Q ex hl hs kk=>?_⟩
  have hc:cs=[]:=yaG.mp hlen
  subst hc
  cases ex
  exact key H F H F [] [] Q hl (Gr.refl hs.dom) rfl kk
 | cons e es =>
  rw [ft,aY] at hn
  refine⟨_,qN7 (p:=p) (pos:=pos) q2 q6 (g.room.mono h2k) (g.gl _ hg) q1 q5 .nil nz pt hd (cR hn.1) (ku hn.2),λGe H F Z τ xs Q ex hl hs kk=>?_⟩
  refine q Ge H F Z τ xs _ ex hs λvs H1 F1 g1 rs=>?_
  exact key H F H1 F1 xs vs Q hl g1 rs kk
noncomputable def qU6 (X:Cx) (e:Expr):TE:=fun Z H Q=>∃t:TE,PE X e t/\t Z H Q
theorem qQE:PE X e (qU6 X e):=λpins s Z H Q I h=>let ⟨_,p,q⟩:=h;p pins s Z H Q I q
theorem zZ (hn2:bs.all di=true) (h30:bs.length<30):methodCallForm (bs.length+([]:List Keyword).length) (backTo pos2 (starEach bs X.env)) (backToKw pos2 (keywordEach [] X.env))=true:=by
 unfold methodCallForm
 rw [qKg hn2,Bool.true_and,aY]
 exact⟨rfl,Qk h30⟩
theorem Dp:∀{l:List (Nat×β)},l.lookup c=some b->(c,b)∈l
 | (a,x)::r,h=>by
  rw [jK] at h
  split at h
  ·rename_i hc
   have hc:c=a:=by simpa using hc
   cases h
   rw [hc]
   exact dz
  ·exact dM _ (Dp h)
theorem qP3 (g:XG call G k X sc N) (hb:j6 a=true) (h1:SndE call X a ca) (hn2:bs.all di=true) (hbl:ds.length=bs.length) (hln:(p2.endLine == pos2.line)=true) (h30:bs.length<30)
  (h2:iF call X bs ds):SndE call X (.Call (.Attribute a m p2) bs [] pos2) (.mc ca m (pO G m) ds):=by
 obtain⟨t1,pt1,qt1⟩:=h1
 obtain⟨t2,pt2,qq⟩:=h2
 refine⟨_,qQE,λGe H F Z τ r Q hr hs kk=>?_⟩
 rw [zX] at hr
 obtain⟨⟨b,d⟩,ey,hr⟩:=ak hr
 obtain⟨f,eq,hr⟩:=ak hr
 obtain⟨ys,ez,hr⟩:=ak hr
 cases d with
 | obj kn os =>
  have eq:(if kn.ns.all (λf=>f != m)=true then (pO G m).lookup kn.c else none)=some f:=eq
  split at eq
  ·rename_i hm
   have hmem:=Dp eq
   unfold pO at hmem
   obtain⟨u,hu,eu⟩:=yaO.mp hmem
   obtain⟨hu2,hum⟩:=yaQ.mp hu
   clear hu hmem
   have hum:u.m=m:=by simpa using hum
   have e1:u.kn.c=kn.c:=(jI eu).1
   have e2:u.i=f:=(jI eu).2
   subst hum e2
   obtain⟨fm,fdm,psm,q1,q2,q3,q4,q7,q8,q9,kA,ow,q12⟩:=(g.meth u hu2).ex
   cases bs with
   | nil =>
    have few:=zZ (X:=X) (pos2:=pos2) (bs:=[]) rfl (by decide)
    obtain rfl:ds=[]:=yaG.mp hbl
    cases ez
    refine⟨_,qKN (apos:=p2) (pos:=pos2) pt1 q3 q7 q9 g.room q8 .nil nz (Bg (uT hb _ _) few hln),?_⟩
    refine qt1 Ge H F Z τ _ _ ey hs λv H1 F1 g1 rr=>?_
    obtain⟨a',vs,rfl,⟨dx,fs,o2,o3,o4,o5⟩,o6⟩:=rr.look.obj
    rw [<-e1] at o2
    refine⟨a',dx,fs,rfl,o2,o5 _ λz=>?_,?_⟩
    ·have:=yaM.mp hm _ z
     simp at this
    have rd:RD X.K H1 F1 (.obj kn os) (.ref a'):=by
     cases b with
     | false=>exact rr
     | true=>obtain⟨_,_,_,z,_⟩:=rr;cases z
    have rg:RGs X.K H1 F1 [.obj kn os] (.ref a'::([]++[])):=⟨.ref a',[],rfl,.inl rd,rfl⟩
    exact⟨by rw [RGs.length rg];exact kA _ _ hr,F1,_,r,g1.dom,rg,hr,λv H' F' g4 rr=>kk v H' F' (g1.trans g4) (rr.back g1.same)⟩
   | cons b2 bs =>
    have few:=zZ (X:=X) (pos2:=pos2) hn2 h30
    rw [ft,aY] at hn2
    refine⟨_,qN6 (apos:=p2) (pos:=pos2) pt1 q3 q7 q9 g.room q8 .nil nz pt2 (cR hn2.1) (ku hn2.2) (Bg (uT hb _ _) few hln),?_⟩
    refine qt1 Ge H F Z τ _ _ ey hs λv H1 F1 g1 rr=>?_
    obtain⟨a',vs,rfl,⟨dx,fs,o2,o3,o4,o5⟩,o6⟩:=rr.look.obj
    rw [<-e1] at o2
    refine⟨a',dx,fs,rfl,o2,o5 _ λz=>?_,?_⟩
    ·have:=yaM.mp hm _ z
     simp at this
    refine qq Ge H1 F1 Z τ ys _ ez (hs.grow g1) λws H3 F3 g3 rs2=>?_
    have rd:RD X.K H3 F3 (.obj kn os) (.ref a'):=RD.mono g3.keep (by
     cases b with
     | false=>exact rr
     | true=>obtain⟨_,_,_,z,_⟩:=rr;cases z)
    have rg:RGs X.K H3 F3 (.obj kn os::ys) (.ref a'::(ws++[])):=by
     rw [i7]
     exact⟨.ref a',ws,rfl,.inl rd,RGs.of rs2⟩
    exact⟨by rw [RGs.length rg];exact kA _ _ hr,F3,_,r,g3.dom,rg,hr,λv H' F' g4 rr=>kk v H' F' ((g1.trans g3).trans g4) (rr.back (g1.trans g3).same)⟩
  ·cases eq
 | _=>cases eq
theorem qP2 (g:XG call G k X sc N) (hu:u∈G.meth) (hg:bD sc u.c=true) (hd:(u.c == ("__debug__":Str))=false) (hn:es.all di=true) (h:iF call X es cs) (hlen:cs.length=es.length):SndE call X (.Call (.Name u.c p) es [] pos) (.mk u.kn cs):=by
 obtain⟨t,pt,qt⟩:=qTu (p:=p) (pos:=pos) g hu hg hd hn h hlen
 refine⟨t,pt,λGe H F Z τ r Q hr hs kk=>?_⟩
 rw [zY] at hr
 obtain⟨xs,ex,hr⟩:=ak hr
 split at hr
 ·rename_i hl
  cases hr
  exact qt Ge H F Z τ xs Q ex hl hs λx H' F' g' rd=>kk _ H' F' g' rd
 ·cases hr
theorem qIy (h:uc G c=some u):u∈G.meth/\u.c=c:=by
 unfold uc at h
 have h1:=List.mem_of_find?_eq_some h
 have h2:=List.find?_some h
 simp only [beq_iff_eq] at h2
 exact⟨h1,h2⟩
end
def ji (sc:Scope) (N:List Str):Nat->List Str->List Stmt->Bool
 | _,[],[]=>true
 | j,f::ns,.Assign [.Attribute (.Name s _) g _] (.Name p _) _::r=>g == f&&df sc N s == some 0&&df sc N p == some (j+1)&&ji sc N (j+1) ns r
 | _,_,_=>false
section
variable {call:Nat->List D->Option R}{G:Gx}{k:Nat}{X:Cx}{sc:Scope}{N:List Str}
theorem qG1 {f:Str}{ns:List Str}{st:Stmt}{r:List Stmt}(h:ji sc N j (f::ns) (st::r)=true):∃s sp gp p pp ap,st=.Assign [.Attribute (.Name s sp) f gp] (.Name p pp) ap/\df sc N s=some 0/\df sc N p=some (j+1)/\ji sc N (j+1) ns r=true:=by
 unfold ji at h
 split at h
 ·rename_i h1 h2;cases h2
 ·rename_i _ _ _ _ s sp g' gp p pp ap _ e1 e2
  cases e1
  cases e2
  rw [aY,aY,aY] at h
  obtain⟨⟨⟨hf,hs⟩,hp⟩,hr⟩:=h
  have hf:g'=f:=by simpa using hf
  subst hf
  exact⟨s,sp,gp,p,pp,ap,rfl,by simpa using hs,by simpa using hp,hr⟩
 ·cases h
theorem CY (g:XG call G k X sc N):∀(ns:List Str) (j:Nat) (body:List Stmt),ji sc N j ns body=true->∃t,PSs X body t/\∀(Z:L2.St) (H:Hp) (x C dx:Addr) (fs:List (Str×V)) (ws:List V) (Dn:Ends),Z[0]?=some (some (.ref x))->(∀i w,ws[i]?=some w->Z[j+1+i]?=some (some w))->ws.length=ns.length ->
  H x=some (.ins C dx fs)->Cls X.K C->(∀f∈ns,NoAttr X.K C f)->fs.length+ns.length<1000->Dn.nx Z (aA H x (.ins C dx (jf ns ws fs)))->t Dn Z H
 | [],j,[],_=>⟨_,Br,fun Z H x C dx fs ws Dn h0 hw hl hH hC hN hz hq=>by
   have e:aA H x (.ins C dx fs)=H:=by
    funext b
    by_cases h:b=x
    ·subst h;rw [ef,hH]
    ·rw [aX h]
   have hq:Dn.nx Z (aA H x (.ins C dx fs)):=hq
   rw [e] at hq
   exact hq⟩
 | [],_,_::_,h=>by cases h
 | f::ns,j,[],h=>by cases h
 | f::ns,j,st::r,h=>by
  obtain⟨s,sp,gp,p,pp,ap,rfl,hs,hp,hr⟩:=qG1 h
  obtain⟨s1,s2,s3,s4⟩:=jv g hs
  obtain⟨p1,p2,p3,p4⟩:=jv g hp
  obtain⟨t,pt,qt⟩:=CY g ns (j+1) r hr
  refine⟨_,CL (qQp (ia (i:=0) s1 s2 s3 s4) (ia (i:=j+1) p1 p2 p3 p4) rfl) pt,fun Z H x C dx fs ws Dn h0 hw hl hH hC hN hz hq=>?_⟩
  cases ws with
  | nil=>simp at hl
  | cons w ws =>
   refine⟨w,hw 0 w rfl,.ref x,h0,x,C,dx,fs,rfl,hH,hC,hN _ dz,by simp at hz;omega,?_⟩
   refine qt Z _ x C dx (cY f w fs) ws Dn h0 (λi u hi=>?_) (by simpa using hl) ef hC (λf hf=>hN f (dM _ hf)) (by have:=CO f w fs;simp at hz;omega) ?_
   ·have:=hw (i+1) u (by simpa using hi)
    rw [show j+1+1+i=j+1+(i+1) by omega]
    exact this
   ·rw [BR]
    exact hq
end
end Dw
namespace Dw
open PySem PySem.Spec PyProof.Rows L2
theorem eM {Z:En}{i:Nat}{o:Option R}(h:i<Z.length):ax (Z.set i o) i=o:=by
 simp [ax,h]
theorem cZ (h:i≠j):ax (Z.set i o) j=ax Z j:=by
 simp [ax,cM h]
theorem gc (h:ax Z i=some r):i<Z.length:=by
 by_cases hi:i<Z.length
 ·exact hi
 ·have:Z[i]?=none:=List.getElem?_eq_none (by omega)
  simp [ax,this] at h
section
variable {K:Qb}{G:Gp}{H H1:Hp}{F F1:Fz}{Z:En}{τ:L2.St}{i:Nat}{d:D}{v:V}
theorem SR.bind (s:SR K G H F Z τ) (h:RD K H F d v):SR K G H F (Z.set i (some (false,d))) (τ.set i (some v)):=by
 refine⟨by simp [s.len],s.ent,s.dom,λj e hj=>?_,λj e hj hd=>?_,λj k e e' hj hk hjk=>?_,λj m ks hj=>?_,λp e hp hj=>?_⟩
 ·by_cases hij:i=j
  ·subst hij
   have hl:i<Z.length:=by simpa using gc hj
   rw [eM hl] at hj
   cases hj
   exact⟨v,by rw [k0 (by rw [<-s.len];exact hl)],h⟩
  ·rw [cZ hij] at hj
   obtain⟨u,h1,h2⟩:=s.val j e hj
   exact⟨u,by rw [cM hij];exact h1,h2⟩
 ·have hij:i≠j:=λz=>by
   subst z
   have hl:i<Z.length:=by simpa using gc hj
   rw [eM hl] at hj
   cases hj
  rw [cZ hij] at hj
  obtain⟨a,ds,vs,h1,h2,h3⟩:=s.own j e hj hd
  exact⟨a,ds,vs,h1,by rw [cM hij];exact h2,h3⟩
 ·have nj:∀{j:Nat} {e:D},ax (Z.set i (some (false,d))) j=some (true,e)->i≠j:=λ{j e} hj z=>by
   subst z
   have hl:i<Z.length:=by simpa using gc hj
   rw [eM hl] at hj
   cases hj
  have n1:=nj hj
  have n2:=nj hk
  rw [cZ n1] at hj
  rw [cZ n2] at hk
  rw [cM n1,cM n2] at hjk
  exact s.sep j k e e' hj hk hjk
 ·have hij:i≠j:=λz=>by
   subst z
   have hl:i<Z.length:=by simpa using gc hj
   rw [eM hl] at hj
   cases hj
  rw [cZ hij] at hj
  obtain⟨a,h1,h2⟩:=s.dct j m ks hj
  exact⟨a,by rw [cM hij];exact h1,h2⟩
 ·have hij:i≠0:=λz=>by
   subst z
   have hl:0<Z.length:=by simpa using gc hj
   rw [eM hl] at hj
   cases hj
  rw [cZ hij] at hj
  rw [cM hij]
  exact s.pin p e hp hj
theorem SR.skip (s:SR K G H F Z τ) (h:ax Z i=none):SR K G H F Z (τ.set i (some v)):=by
 have ne:∀{j:Nat} {r:R},ax Z j=some r->i≠j:=λ{j r} e z=>by subst z;rw [h] at e;cases e
 refine⟨by simp [s.len],s.ent,s.dom,λj e hj=>?_,λj e hj hd=>?_,λj k e e' hj hk hjk=>?_,λj m ks hj=>?_,λp e hp hj=>?_⟩
 ·obtain⟨u,h1,h2⟩:=s.val j e hj
  exact⟨u,by rw [cM (ne hj)];exact h1,h2⟩
 ·obtain⟨a,ds,vs,h1,h2,h3⟩:=s.own j e hj hd
  exact⟨a,ds,vs,h1,by rw [cM (ne hj)];exact h2,h3⟩
 ·rw [cM (ne hj),cM (ne hk)] at hjk
  exact s.sep j k e e' hj hk hjk
 ·obtain⟨a,h1,h2⟩:=s.dct j m ks hj
  exact⟨a,by rw [cM (ne hj)];exact h1,h2⟩
 ·rw [cM (ne hj)]
  exact s.pin p e hp hj
theorem SR.keep (s:SR K G H F Z τ) (k:Keep H F H1 F1) (ent:Same G'.h H1) (dom:∀a,H1 a=none->¬F1 a)
  (own:∀i d,ax Z i=some (true,d)->jS d=false->∃a ds vs,d=.lst ds/\τ[i]?=some (some (.ref a))/\G' a=none/\¬F1 a/\H1 a=some (.lst vs)/\RDs K H1 F1 ds vs)
  (dct:∀i m ks,ax Z i=some (true,.dct m ks)->∃a,τ[i]?=some (some (.ref a))/\¬F1 a/\H1 a=some (.dK (dk ks))/\(m=true->G' a=none))
  (pin:∀p d,G'.pin=some p->ax Z 0=some (true,d)->τ[0]?=some (some (.ref p))):SR K G' H1 F1 Z τ:=
 ⟨s.len,ent,dom,λi d e=>let ⟨v,h1,h2⟩:=s.val i d e;⟨v,h1,RD.mono k h2⟩,own,s.sep,dct,pin⟩
theorem Keep.trans (a:Keep H F H1 F1) (b:Keep H1 F1 H2 F2):Keep H F H2 F2:=
 ⟨λp xs h=>b.tups p xs (a.tups p xs h),λp xs f h=>b.lsts p xs (a.lsts p xs f h).1 (a.lsts p xs f h).2,λp C dx fs h=>b.inss p C dx fs (a.inss p C dx fs h)⟩
theorem Keep.refl:Keep H F H F:=⟨λ_ _ h=>h,λ_ _ f h=>⟨f,h⟩,λ_ _ _ _ h=>h⟩
end
section
variable {call:Nat->List D->Option R}{G:Gx}{k:Nat}{X:Cx}{sc:Scope}{N:List Str}
def gL:List Nat->jE
 | []=>tU
 | i::is=>qD (j3 i) (gL is)
def oB (K:Qb):Tg->TG
 | .one i=>j3 i
 | .two i j=>tV K 2 (qD (j3 i) (qD (j3 j) tU))
 | .many is=>tV K is.length (gL is)
theorem j8 (g:XG call G k X sc N) (h:(sc.names.lookup x == some .local||sc.names.lookup x == some .cell)=true):mN X.env.scope x/\(X.fn x=true∨X.env.scope.names.lookup x=some .local):=g.loc x h
theorem AX (g:XG call G k X sc N) (h:eX sc N tg=some t):PG X tg (oB X.K t):=by
 unfold eX at h
 split at h
 ·rename_i x pos
  split at h
  ·rename_i hx
   cases hi:cz N x with
   | none=>rw [hi] at h;cases h
   | some i =>
    rw [hi] at h
    cases h
    obtain⟨l1,l2⟩:=j8 g hx
    exact rz (by rw [g.hN];exact g.nd) (by rw [g.hN];exact ig hi) l1 l2
  ·cases h
 ·rename_i x p y p' kk pos
  split at h
  ·rename_i hx
   rw [aY,aY] at hx
   obtain⟨⟨hx,hy⟩,hne⟩:=hx
   cases hi:cz N x with
   | none=>rw [hi] at h;cases h
   | some i =>
    cases hj:cz N y with
    | none=>rw [hi,hj] at h;cases h
    | some j =>
     rw [hi,hj] at h
     cases h
     obtain⟨l1,l2⟩:=j8 g hx
     obtain⟨m1,m2⟩:=j8 g hy
     exact qS g.calm (vE (rz (by rw [g.hN];exact g.nd) (by rw [g.hN];exact ig hi) l1 l2) (vE (rz (by rw [g.hN];exact g.nd) (by rw [g.hN];exact ig hj) m1 m2) Bn))
  ·cases h
 ·cases h
theorem BP {K:Qb}{Ge:Gp}{H:Hp}{F:Fz}{Z Z':En}{τ:L2.St}{t:Tg}{d:D}{v:V}{Q:L2.St->Hp->Prop}(hm:∀is,t≠.many is) (s:SR K Ge H F Z τ) (hb:de Z t d=some Z') (hv:RD K H F d v)
  (h:∀τ',SR K Ge H F Z' τ'->(∀Z0:En,SR K Ge H F Z0 τ->(∀i,(t=.one i∨∃j,t=.two i j∨t=.two j i)->ax Z0 i=none)->SR K Ge H F Z0 τ')->Q τ' H):oB K t v τ H Q:=by
 cases t with
 | one i =>
  cases hb
  exact h _ (s.bind hv) fun Z0 s0 hn=>s0.skip (hn i (.inl rfl))
 | two i j =>
  unfold de at hb
  split at hb
  ·rename_i heq;cases heq
  ·rename_i i' j' x y heq
   cases heq
   cases hb
   obtain⟨a,vs,rfl,hs,hr⟩:=hv
   obtain⟨v1,r,rfl,h1,w,r2,e2,h2,h3⟩:=hr
   have h3:r2=[]:=h3
   subst h3
   subst e2
   exact⟨a,[v1,w],rfl,hs,rfl,v1,[w],rfl,w,[],rfl,rfl,h _ ((s.bind h1).bind h2) fun Z0 s0 hn=>(s0.skip (hn i (.inr ⟨j,.inl rfl⟩))).skip (hn j (.inr ⟨i,.inr rfl⟩))⟩
  ·rename_i heq;cases heq
  ·cases hb
 | many is=>exact Qn rfl (hm is)
theorem DB {K:Qb}{Ge:Gp}{H:Hp}{F:Fz}{Q:L2.St->Hp->Prop}:∀{is:List Nat}{ds:List D}{vs:List V}{Z Z':En}{τ:L2.St},SR K Ge H F Z τ->nK Z is ds=some Z'->RDs K H F ds vs->(∀τ',SR K Ge H F Z' τ'->Q τ' H)->gL is vs τ H Q
 | [],ds,vs,Z,Z',τ,s,hb,hv,h=>by
  cases ds with
  | nil=>cases hb;have hv:vs=[]:=hv;exact⟨hv,h _ s⟩
  | cons d r=>cases hb
 | i::is,ds,vs,Z,Z',τ,s,hb,hv,h=>by
  cases ds with
  | nil=>cases hb
  | cons d r =>
   obtain⟨v,w,rfl,h1,h2⟩:=hv
   exact⟨v,w,rfl,DB (s.bind h1) hb h2 h⟩
theorem Dt:∀{is:List Nat}{ds:List D}{Z Z':En},nK Z is ds=some Z'->ds.length=is.length
 | [],[],_,_,_=>rfl
 | [],_::_,_,_,h=>by cases h
 | _::_,[],_,_,h=>by cases h
 | i::is,d::ds,Z,Z',h=>by rw [fW,fW,Dt (show nK (Z.set i (some (false,d))) is ds=some Z' from h)]
theorem oa {K:Qb}{Ge:Gp}{H:Hp}{F:Fz}{Z Z':En}{τ:L2.St}{t:Tg}{d:D}{v:V}{Q:L2.St->Hp->Prop}(s:SR K Ge H F Z τ) (hb:de Z t d=some Z') (hv:RD K H F d v)
  (h:∀τ',SR K Ge H F Z' τ'->Q τ' H):oB K t v τ H Q:=by
 cases t with
 | one i=>exact BP (λ_ z=>nomatch z) s hb hv fun τ' s' _=>h τ' s'
 | two i j=>exact BP (λ_ z=>nomatch z) s hb hv fun τ' s' _=>h τ' s'
 | many is =>
  unfold de at hb
  split at hb
  ·rename_i heq;cases heq
  ·rename_i heq;cases heq
  ·rename_i is' ds heq
   cases heq
   obtain⟨a,vs,rfl,hs,hr⟩:=hv
   exact⟨a,vs,rfl,hs,by rw [RDs.length hr];exact Dt hb,DB s hb hr h⟩
  ·cases hb
theorem qTq (g:XG call G k X sc N) (h:gX sc N e=some i):PG X e (j3 i)/\∃x p,e=.Name x p:=by
 unfold gX at h
 split at h
 ·rename_i x pos
  split at h
  ·rename_i hx
   obtain⟨l1,l2⟩:=j8 g hx
   exact⟨rz (by rw [g.hN];exact g.nd) (by rw [g.hN];exact ig h) l1 l2,x,pos,rfl⟩
  ·cases h
 ·cases h
theorem Ag (g:XG call G k X sc N):∀{es:List Expr}{is:List Nat},eg (gX sc N) es=some is->oO X es (gL is)/\(assignEach es X.env).length=is.length/\(assignEach es X.env).findIdx? (·.1)=none
 | [],is,h=>by cases h;exact⟨Bn,rfl,rfl⟩
 | e::es,is,h=>by
  unfold eg at h
  cases hx:gX sc N e with
  | none=>rw [hx] at h;cases h
  | some i =>
   rw [hx] at h
   cases hy:eg (gX sc N) es with
   | none=>simp only [fj] at h;rw [hy] at h;cases h
   | some js =>
    simp only [fj] at h
    rw [hy] at h
    cases h
    obtain⟨p1,x,p,rfl⟩:=qTq g hx
    obtain⟨q1,q2,q3⟩:=Ag g hy
    refine⟨vE p1 q1 rfl,?_,?_⟩
    ·show (assignEach es X.env).length+1=_
     rw [q2];rfl
    ·show List.findIdx? _ ((false,_)::assignEach es X.env)=none
     rw [List.findIdx?_cons,q3];rfl
theorem qMX (h:eX sc N tg=some t):∀is,t≠.many is:=by
 intro is z
 subst z
 unfold eX at h
 split at h
 ·split at h
  ·rename_i x _ _;cases hx:cz N x<;>(rw [hx] at h;cases h)
  ·cases h
 ·split at h
  ·rename_i x _ y _ _ _ _;cases hx:cz N x<;>rw [hx] at h<;>first|cases h|(cases hy:cz N y<;>(rw [hy] at h;cases h))
  ·cases h
 ·cases h
theorem BY (g:XG call G k X sc N) (h:gU sc N tg=some t):PG X tg (oB X.K t):=by
 unfold gU at h
 cases ht:eX sc N tg with
 | some t' =>
  rw [ht] at h
  cases h
  exact AX g ht
 | none =>
  rw [ht] at h
  cases tg with
  | Tuple es kk pos =>
   have h:(eg (gX sc N) es).map Tg.many=some t:=h
   cases hx:eg (gX sc N) es with
   | none=>rw [hx] at h;cases h
   | some is =>
    rw [hx] at h
    cases h
    obtain⟨q1,q2,q3⟩:=Ag g hx
    exact qS g.calm q1 q2 q3
  | _=>cases h
end
def ItOk (K:Qb) (J:It) (H:Hp) (F:Fz) (its:List D):Prop:=∀H' F',Keep H F H' F'->(∀a,H' a=none->¬F' a) ->
 (∀i d,its[i]?=some d->J.go i H'/\∀x H3,J.yld i H' x H3->∃F3,Gr H' F' H3 F3/\RD K H3 F3 d x)/\J.stop its.length H'
def qF (K:Qb) (J:It) (H:Hp) (F:Fz) (its:List D):Prop:=∀H' F',Gr H F H' F' ->
 (∀i d,its[i]?=some d->J.go i H'/\∀x H3,J.yld i H' x H3->∃F3,Gr H' F' H3 F3/\RD K H3 F3 d x)/\J.stop its.length H'
theorem ItOk.g {K:Qb}{J:It}{H:Hp}{F:Fz}{its:List D}(h:ItOk K J H F its):qF K J H F its:=λH' F' g=>h H' F' g.keep g.dom
theorem qRk {K:Qb}{H:Hp}{F:Fz}{a:Addr}{ds:List D}{vs:List V}(h:SqL K H a vs) (r:RDs K H F ds vs):qF K (sd K a) H F ds:=by
 intro H' F' g
 have h':SqL K H' a vs:=h.elim (λz=>.inl (uP g.same z)) .inr
 have r':=RDs.mono g.keep r
 have hl:=RDs.length r'
 refine⟨λi d hd=>?_,⟨vs,h',by omega⟩⟩
 obtain⟨v,e1,e2⟩:=RDs.get r' hd
 refine⟨⟨vs,v,h',e1⟩,λx H3 y=>?_⟩
 obtain⟨rfl,y⟩:=y
 have:=y vs h'
 rw [e1] at this
 cases this
 exact⟨F',Gr.refl g.dom,e2⟩
theorem qOE {K:Qb}{H:Hp}{F:Fz}{a:Addr}{ds:List D}{vs:List V}(h:LsR K H F a vs) (r:RDs K H F ds vs):ItOk K (sd K a) H F ds:=by
 intro H' F' k dom
 have h':LsR K H' F' a vs:=h.elim (λz=>.inl (k.lsts _ _ z.1 z.2)) .inr
 have r':=RDs.mono k r
 have hl:=RDs.length r'
 refine⟨λi d hd=>?_,⟨vs,h'.sq,by omega⟩⟩
 obtain⟨v,e1,e2⟩:=RDs.get r' hd
 refine⟨⟨vs,v,h'.sq,e1⟩,λx H3 y=>?_⟩
 obtain⟨rfl,y⟩:=y
 have:=y vs h'.sq
 rw [e1] at this
 cases this
 exact⟨F',Gr.refl dom,e2⟩
theorem Ab {K:Qb}{H:Hp}{F:Fz}{a:Addr}{ds:List D}{vs:List V}(h:SqT K H a vs) (r:RDs K H F ds vs):ItOk K (xS K a) H F ds:=by
 intro H' F' k dom
 have h':SqT K H' a vs:=h.elim (λz=>.inl (k.tups _ _ z)) .inr
 have r':=RDs.mono k r
 have hl:=RDs.length r'
 refine⟨λi d hd=>?_,⟨vs,h',by omega⟩⟩
 obtain⟨v,e1,e2⟩:=RDs.get r' hd
 refine⟨⟨vs,v,h',e1⟩,λx H3 y=>?_⟩
 obtain⟨rfl,y⟩:=y
 have:=y vs h'
 rw [e1] at this
 cases this
 exact⟨F',Gr.refl dom,e2⟩
theorem qRl {K:Qb}{H:Hp}{F:Fz}(lo:Int) (n:Nat):ItOk K (rZ lo n) H F ((List.range n).map λi=>.int (lo+(i:Nat))):=by
 intro H' F' k dom
 refine⟨λi d hd=>?_,?_⟩
 ·rw [gk] at hd
  cases q:(List.range n)[i]? with
  | none=>rw [q] at hd;cases hd
  | some j =>
   rw [q] at hd
   obtain⟨hl,ej⟩:=yal.mp q
   simp at hl ej
   subst ej
   cases hd
   refine⟨hl,λx H3 y=>?_⟩
   obtain⟨rfl,rfl⟩:=y
   exact⟨F',Gr.refl dom,rfl⟩
 ·show n<=_
  simp
theorem u7 {K:Qb}{H:Hp}{F:Fz}(lo st:Int) (n:Nat):ItOk K (iX lo st n) H F ((List.range n).map λi=>.int (lo+(i:Nat) * st)):=by
 intro H' F' k dom
 refine⟨λi d hd=>?_,?_⟩
 ·rw [gk] at hd
  cases q:(List.range n)[i]? with
  | none=>rw [q] at hd;cases hd
  | some j =>
   rw [q] at hd
   obtain⟨hl,ej⟩:=yal.mp q
   simp at hl ej
   subst ej
   cases hd
   refine⟨hl,λx H3 y=>?_⟩
   obtain⟨rfl,rfl⟩:=y
   exact⟨F',Gr.refl dom,rfl⟩
 ·show n<=_
  simp
end Dw
namespace Dw
open PySem PySem.Spec PyProof.Rows L2
section
variable {prog:Program}{w:World}{A:Around}{E:Value->Shared->Prop}{s:Shared}
theorem qOp (hp:s.heap.IsTupleIter p t k) (ht:s.heap.IsTuple t its) (hy:its[k]?=some y)
  (q:∀h1,h1.IsTupleIter p t (k+1)->Heap.SameBut p s.heap h1->Q y { s with heap:=h1 }):wpAny (model prog w) A (Builtin.SmallTypes.nextOf (.ref p)) Q E s:=by
 obtain⟨b,b1,b2,b3⟩:=id hp;obtain⟨c,c1,_,n1,c3⟩:=ht;unfold Builtin.SmallTypes.nextOf
 refine Qc (wpAny_callSpecial?_slot (name:=Qa "__next__") hp.typeIs F.slot_tuple_iterator_next (wpAny_call_entry F.slot_tuple_iterator_next hp.typeIs F.entry_tuple_iterator_next ?_ (F.args_tuple_iterator_next_1 _)))
 show wpAny _ _ (field (.ref p) 0 >>= _) _ _ s
 refine Qc (Qf b1 b3 (x:=.ref t) rfl ?_);show wpAny _ _ (if (Value.ref t == Value.none)=true then _ else _) _ _ s
 rw [Qm (show ¬((Value.ref t == Value.none)=true) from fD)];show wpAny _ _ (field (.ref p) 1 >>= _) _ _ s
 refine Qc (Qf b1 b3 (x:=.int k 0) rfl ?_);show wpAny _ _ (seqItems? (.ref t) >>= _) _ _ s
 refine Qc (wpAny_seqItems c1 c3 ?_);simp only [hy,jL]
 refine Qc (wpAny_setField b1 b3 (by simp) (Qd ⟨y,rfl,Qd (q _ ?_ (Heap.SameBut.update ..))⟩))
 exact⟨_,Heap.get?_update_self _ b1 (Obj.isFreed_of_fields (Obj.data_mapFields b3 _)),(Obj.cls_mapFields ..).trans b2,by (rw [Obj.data_mapFields b3];simp [rawInt])⟩
theorem qQS (hh:A.handled=none) (hp:s.heap.IsTupleIter p t k) (ht:s.heap.IsTuple t its) (hy:its[k]?=none)
  (q:∀h1 e,Heap.ExtBut p s.heap h1->(∃o,h1.get? e=some o/\o.cls=.type "StopIteration")->E (.ref e) { s with heap:=h1 }):wpAny (model prog w) A (Builtin.SmallTypes.nextOf (.ref p)) Q E s:=by
 obtain⟨b,b1,b2,b3⟩:=id hp;obtain⟨c,c1,_,n1,c3⟩:=ht;unfold Builtin.SmallTypes.nextOf
 refine Qc (wpAny_callSpecial?_slot (name:=Qa "__next__") hp.typeIs F.slot_tuple_iterator_next (wpAny_call_entry F.slot_tuple_iterator_next hp.typeIs F.entry_tuple_iterator_next ?_ (F.args_tuple_iterator_next_1 _)))
 show wpAny _ _ (field (.ref p) 0 >>= _) _ _ s
 refine Qc (Qf b1 b3 (x:=.ref t) rfl ?_);show wpAny _ _ (if (Value.ref t == Value.none)=true then _ else _) _ _ s
 rw [Qm (show ¬((Value.ref t == Value.none)=true) from fD)];show wpAny _ _ (field (.ref p) 1 >>= _) _ _ s
 refine Qc (Qf b1 b3 (x:=.int k 0) rfl ?_);show wpAny _ _ (seqItems? (.ref t) >>= _) _ _ s
 refine Qc (wpAny_seqItems c1 c3 ?_);simp only [hy,jL]
 refine Qc (wpAny_rule (Qc (wpAny_setField b1 b3 (by simp) ?_)));show wpAny _ _ (newExc (.type "StopIteration") [] >>= _) _ _ _
 refine Qc ?_;simp only [newExc,newTuple];refine Qc (wpAny_newObj_type ?_ (by size_fits))
 refine Qc (m:=firstArgMember _ _) (wpAny_of_eq (a:=Value.none) (by first|rfl|(simp only [firstArgMember];rfl)) ?_);refine wpAny_newObj_type ?_ (by size_fits)
 simp only [raiseNew];refine Qc (wpAny_handled ?_);first|rw [show A.in1.handled=none from hh]|rw [hh]
 refine Qc (Qd (wpAny_throw ?_));exact q _ _ (((Heap.SameBut.update ..).extBut.push _).push _) ⟨_,Qh _ rfl,rfl⟩
theorem qOs (hp:s.heap.IsListIter p t k) (ht:s.heap.IsList t its) (hy:its[k]?=some y)
  (q:∀h1,h1.IsListIter p t (k+1)->Heap.SameBut p s.heap h1->Q y { s with heap:=h1 }):wpAny (model prog w) A (Builtin.SmallTypes.nextOf (.ref p)) Q E s:=by
 obtain⟨b,b1,b2,b3⟩:=id hp;obtain⟨c,c1,_,n1,c3⟩:=ht;unfold Builtin.SmallTypes.nextOf
 refine Qc (wpAny_callSpecial?_slot (name:=Qa "__next__") hp.typeIs pI (wpAny_call_entry pI hp.typeIs PySem.entry_listiter_next ?_ (PySem.args_listiter_next _)))
 show wpAny _ _ (field (.ref p) 0 >>= _) _ _ s
 refine Qc (Qf b1 b3 (x:=.ref t) rfl ?_);show wpAny _ _ (if (Value.ref t == Value.none)=true then _ else _) _ _ s
 rw [Qm (show ¬((Value.ref t == Value.none)=true) from fD)];show wpAny _ _ (field (.ref p) 1 >>= _) _ _ s
 refine Qc (Qf b1 b3 (x:=.int k 0) rfl ?_);show wpAny _ _ (seqItems? (.ref t) >>= _) _ _ s
 refine Qc (wpAny_seqItems c1 c3 ?_);simp only [hy,jL]
 refine Qc (wpAny_setField b1 b3 (by simp) (Qd ⟨y,rfl,Qd (q _ ?_ (Heap.SameBut.update ..))⟩))
 exact⟨_,Heap.get?_update_self _ b1 (Obj.isFreed_of_fields (Obj.data_mapFields b3 _)),(Obj.cls_mapFields ..).trans b2,by (rw [Obj.data_mapFields b3];simp [rawInt])⟩
theorem qQW (hh:A.handled=none) (hp:s.heap.IsListIter p t k) (ht:s.heap.IsList t its) (hy:its[k]?=none)
  (q:∀h1 e,Heap.ExtBut p s.heap h1->(∃o,h1.get? e=some o/\o.cls=.type "StopIteration")->E (.ref e) { s with heap:=h1 }):wpAny (model prog w) A (Builtin.SmallTypes.nextOf (.ref p)) Q E s:=by
 obtain⟨b,b1,b2,b3⟩:=id hp;obtain⟨c,c1,_,n1,c3⟩:=ht;unfold Builtin.SmallTypes.nextOf
 refine Qc (wpAny_callSpecial?_slot (name:=Qa "__next__") hp.typeIs pI (wpAny_call_entry pI hp.typeIs PySem.entry_listiter_next ?_ (PySem.args_listiter_next _)))
 show wpAny _ _ (field (.ref p) 0 >>= _) _ _ s
 refine Qc (Qf b1 b3 (x:=.ref t) rfl ?_);show wpAny _ _ (if (Value.ref t == Value.none)=true then _ else _) _ _ s
 rw [Qm (show ¬((Value.ref t == Value.none)=true) from fD)];show wpAny _ _ (field (.ref p) 1 >>= _) _ _ s
 refine Qc (Qf b1 b3 (x:=.int k 0) rfl ?_);show wpAny _ _ (seqItems? (.ref t) >>= _) _ _ s
 refine Qc (wpAny_seqItems c1 c3 ?_);simp only [hy,jL]
 refine Qc (wpAny_rule (Qc (wpAny_setField b1 b3 (by simp) ?_)));show wpAny _ _ (newExc (.type "StopIteration") [] >>= _) _ _ _
 refine Qc ?_;simp only [newExc,newTuple];refine Qc (wpAny_newObj_type ?_ (by size_fits))
 refine Qc (m:=firstArgMember _ _) (wpAny_of_eq (a:=Value.none) (by first|rfl|(simp only [firstArgMember];rfl)) ?_);refine wpAny_newObj_type ?_ (by size_fits)
 simp only [raiseNew];refine Qc (wpAny_handled ?_);first|rw [show A.in1.handled=none from hh]|rw [hh]
 refine Qc (Qd (wpAny_throw ?_));exact q _ _ (((Heap.SameBut.update ..).extBut.push _).push _) ⟨_,Qh _ rfl,rfl⟩
def SqH:Bool->Heap->Addr->Array Value->Prop
 | true,h,t,its=>h.IsList t its
 | false,h,t,its=>h.IsTuple t its
def SqI:Bool->Heap->Addr->Addr->Nat->Prop
 | true,h,p,t,k=>h.IsListIter p t k
 | false,h,p,t,k=>h.IsTupleIter p t k
theorem SqI.extBut (x:SqI kd h a t i) (hs:Heap.ExtBut b h h') (hab:a≠b):SqI kd h' a t i:=by
 cases kd with
 | true=>exact Heap.IsListIter.extBut x hs hab
 | false=>exact Heap.IsTupleIter.extBut x hs hab
theorem SqI.at (x:SqI kd h a t i) (e:∀o,h.get? a=some o->h'.get? a=some o):SqI kd h' a t i:=by
 cases kd with
 | true=>exact Heap.IsListIter.at x e
 | false=>exact Heap.IsTupleIter.at x e
theorem SqI.rec' (x:SqI kd h a t i):∃o,h.get? a=some o/\∀v,o.data≠.cell v:=by
 cases kd with
 | true=>obtain⟨o,e,c,d⟩:=x;exact⟨o,e,λv r=>by rw [d] at r;cases r⟩
 | false=>obtain⟨o,e,c,d⟩:=x;exact⟨o,e,λv r=>by rw [d] at r;cases r⟩
theorem SqH.but (ht:SqH kd h t its) (hs:Heap.SameBut p h h') (ne:t≠p):SqH kd h' t its:=by
 cases kd with
 | true=>exact Heap.IsList.extBut ht hs.extBut ne
 | false=>exact Heap.IsTuple.extBut ht hs.extBut ne
theorem rq (hp:SqI kd s.heap p t k) (ht:SqH kd s.heap t its) (hy:its[k]?=some y)
  (q:∀h1,SqI kd h1 p t (k+1)->Heap.SameBut p s.heap h1->Q y { s with heap:=h1 }):wpAny (model prog w) A (Builtin.SmallTypes.nextOf (.ref p)) Q E s:=by
 cases kd with
 | true=>exact qOs hp ht hy q
 | false=>exact qOp hp ht hy q
theorem qR (hh:A.handled=none) (hp:SqI kd s.heap p t k) (ht:SqH kd s.heap t its) (hy:its[k]?=none)
  (q:∀h1 e,Heap.ExtBut p s.heap h1->(∃o,h1.get? e=some o/\o.cls=.type "StopIteration")->E (.ref e) { s with heap:=h1 }):wpAny (model prog w) A (Builtin.SmallTypes.nextOf (.ref p)) Q E s:=by
 cases kd with
 | true=>exact qQW hh hp ht hy q
 | false=>exact qQS hh hp ht hy q
structure Zp (z a b i j:Addr):Prop where
 az:a≠z
 bz:b≠z
 iz:i≠z
 jz:j≠z
 ab:a≠b
 ai:a≠i
 aj:a≠j
 bi:b≠i
 bj:b≠j
 ij:i≠j
structure Zs (kd ke:Bool) (h:Heap) (z a b i j t u:Addr) (k:Nat):Prop where
 hz:IsZip h z a b .none
 ha:IsPair h a (.ref i) (.ref j)
 hb:∃x y,IsPair h b x y
 hi:SqI kd h i t k
 hj:SqI ke h j u k
theorem qMM (D:Zp z a b i j) (S:Zs kd ke s.heap z a b i j t u k) (ht:SqH kd s.heap t xs) (hu:SqH ke s.heap u ys)
  (nt:t∉[z,a,b,i,j]) (nu:u∉[z,a,b,i,j]) (hx:xs[k]?=some x) (hy:ys[k]?=some y)
  (q:∀h',IsZip h' z a b (rawInt s.heap.objs.size)->(∃x y,IsPair h' b x y)->SqI kd h' i t (k+1)->SqI ke h' j u (k+1)->IsPair h' s.heap.objs.size x y->h'.objs.size=s.heap.objs.size+1 ->
   (∀c o,c∉[z,b,i,j]->s.heap.get? c=some o->h'.get? c=some o)->Q (some (.ref s.heap.objs.size)) { s with heap:=h' }):wpAny (model prog w) A (pyNext (.ref z)) Q E s:=by
 obtain⟨hz,ha,⟨x0,y0,hb⟩,hi,hj⟩:=S
 simp only [yag,eD,or_false,not_or] at nt nu
 obtain⟨tz,ta,tb,ti,tj⟩:=nt
 obtain⟨uz,ua,ub,ui,uj⟩:=nu
 have hT:s.TypeIs (.ref z) "zip":=⟨_,hz,rfl⟩
 unfold pyNext
 refine Qc (wpAny_attempt (wpAny_callSpecial?_slot (name:=Qa "__next__") hT F.slot_zip_next (wpAny_call_entry F.slot_zip_next hT F.entry_zip_next ?_ (F.args_zip_next_1 _))))
 show wpAny _ _ (field (.ref z) 2 >>= _) _ _ _
 refine Qc (Qf hz rfl (x:=.bool false) rfl ?_);show wpAny _ _ (field (.ref z) 3 >>= _) _ _ _
 refine Qc (Qf hz rfl (x:=.ref a) rfl ?_);refine Qc (wpAny_seqItems ha rfl ?_)
 show wpAny _ _ (Builtin.SmallTypes.ownedTupleIsFree (.ref z) >>= _) _ _ _
 refine Qc ?_;unfold Builtin.SmallTypes.ownedTupleIsFree
 refine Qc (Qf hz rfl (x:=.none) rfl (Qd ?_));simp only [if_true]
 refine Qc (wpAny_rule ?_);refine Qc (Qf hz rfl (x:=.ref b) rfl ?_)
 refine Qc (wpAny_setField_rec hz (by simp) λh1 z1 s1=>?_)
 replace z1:IsZip h1 z a b .ellipsis:=z1
 refine Qc ?_
 simp only [List.zipIdx_cons,List.zipIdx_nil,List.forIn_nil,sQ]
 refine Qc (Qc (wpAny_onRaise ?_));show wpAny _ _ (Builtin.SmallTypes.nextOf (.ref i) >>= _) _ _ _
 refine Qc (rq (hi.extBut s1.extBut D.iz) (ht.but s1 tz) hx λh2 i2 s2=>Qd ?_)
 have b2:IsPair h2 b x0 y0:=s2.extBut _ _ D.bi (s1.extBut _ _ D.bz hb)
 refine Qc (wpAny_seqItems b2 rfl ?_)
 refine Qc (wpAny_updateSeq_pair b2 λh3 b3 s3=>?_)
 replace b3:IsPair h3 b x y0:=b3
 refine Qc (wpAny_letGo (Qd ?_));refine Qc (Qc (wpAny_onRaise ?_))
 show wpAny _ _ (Builtin.SmallTypes.nextOf (.ref j) >>= _) _ _ _
 refine Qc (rq (((hj.extBut s1.extBut D.jz).extBut s2.extBut D.ij.symm).extBut s3.extBut D.bj.symm) (((hu.but s1 uz).but s2 ui).but s3 ub) hy λh4 j4 s4=>Qd ?_)
 have b4:IsPair h4 b x y0:=s4.extBut _ _ D.bj b3
 refine Qc (wpAny_seqItems b4 rfl ?_)
 refine Qc (wpAny_updateSeq_pair b4 λh5 b5 s5=>?_)
 replace b5:IsPair h5 b x y:=b5
 refine Qc (wpAny_letGo (Qd (Qd ?_)));refine Qc (wpAny_seqItems b5 rfl ?_)
 refine Qc (wpAny_newTuple ?_)
 have hsz:h5.objs.size=s.heap.objs.size:=by rw [s5.1,s4.1,s3.1,s2.1,s1.1]
 have z5:IsZip h5 z a b .ellipsis:=s5.extBut _ _ D.bz.symm (s4.extBut _ _ D.jz.symm (s3.extBut _ _ D.bz.symm (s2.extBut _ _ D.iz.symm z1)))
 have k5:∀c o,c∉[z,b,i,j]->s.heap.get? c=some o->h5.get? c=some o:=λc o hc e=>by
  simp only [yag,eD,or_false,not_or] at hc
  exact s5.extBut _ _ hc.2.1 (s4.extBut _ _ hc.2.2.2 (s3.extBut _ _ hc.2.1 (s2.extBut _ _ hc.2.2.1 (s1.extBut _ _ hc.1 e))))
 have i5:SqI kd h5 i t (k+1):=((i2.extBut s3.extBut D.bi.symm).extBut s4.extBut D.ij).extBut s5.extBut D.bi.symm
 have j5:SqI ke h5 j u (k+1):=j4.extBut s5.extBut D.bj.symm
 have lz:z<h5.objs.size:=Qi z5
 show wpAny _ _ (Builtin.SmallTypes.ownedTupleHandOut (.ref z) (.ref h5.objs.size) >>= _) _ _ _
 refine Qc ?_;unfold Builtin.SmallTypes.ownedTupleHandOut
 have z6:IsZip (h5.push { cls:=.type "tuple",data:=.seq #[x,y] }) z a b .ellipsis:=Qg _ z5
 refine Qc (wpAny_setField_rec z6 (by simp) λh7 z7 s7=>?_)
 replace z7:IsZip h7 z a b (rawInt h5.objs.size):=z7
 refine wpAny_setField_rec z7 (by simp) λh8 z8 s8=>?_
 replace z8:IsZip h8 z a b (rawInt h5.objs.size):=z8
 have up:∀c o,c≠z->h5.get? c=some o->h8.get? c=some o:=λc o c1 e=>s8.extBut _ _ c1 (s7.extBut _ _ c1 (Qg _ e))
 have t8:IsPair h8 h5.objs.size x y:=s8.extBut _ _ (iv lz) (s7.extBut _ _ (iv lz) (Qh _ rfl))
 have n8:h8.objs.size=h5.objs.size+1:=by rw [s8.1,s7.1,Heap.size_push]
 rw [hsz] at z8 t8 n8
 refine Qd ⟨_,rfl,Qd ?_⟩
 show Q (some (.ref h5.objs.size)) _
 rw [hsz]
 refine q h8 z8 ⟨_,_,up _ _ D.bz b5⟩ (i5.at λo e=>up _ o D.iz e) (j5.at λo e=>up _ o D.jz e) t8 n8 λc o hc e=>up c o (λr=>hc (by simp [r])) (k5 c o hc e)
theorem qML (hh:A.handled=none) (D:Zp z a b i j) (S:Zs kd ke s.heap z a b i j t u k) (ht:SqH kd s.heap t xs) (hu:SqH ke s.heap u ys)
  (nt:t∉[z,a,b,i,j]) (nu:u∉[z,a,b,i,j]) (hend:xs[k]?=none∨ys[k]?=none)
  (q:∀h',(∀c o,c∉[z,b,i,j]->s.heap.get? c=some o->h'.get? c=some o)->Q none { s with heap:=h' }):wpAny (model prog w) A (pyNext (.ref z)) Q E s:=by
 obtain⟨hz,ha,⟨x0,y0,hb⟩,hi,hj⟩:=S
 simp only [yag,eD,or_false,not_or] at nt nu
 obtain⟨tz,ta,tb,ti,tj⟩:=nt
 obtain⟨uz,ua,ub,ui,uj⟩:=nu
 have hT:s.TypeIs (.ref z) "zip":=⟨_,hz,rfl⟩
 unfold pyNext
 refine Qc (wpAny_attempt (wpAny_callSpecial?_slot (name:=Qa "__next__") hT F.slot_zip_next (wpAny_call_entry F.slot_zip_next hT F.entry_zip_next ?_ (F.args_zip_next_1 _))))
 show wpAny _ _ (field (.ref z) 2 >>= _) _ _ _
 refine Qc (Qf hz rfl (x:=.bool false) rfl ?_);show wpAny _ _ (field (.ref z) 3 >>= _) _ _ _
 refine Qc (Qf hz rfl (x:=.ref a) rfl ?_);refine Qc (wpAny_seqItems ha rfl ?_)
 show wpAny _ _ (Builtin.SmallTypes.ownedTupleIsFree (.ref z) >>= _) _ _ _
 refine Qc ?_;unfold Builtin.SmallTypes.ownedTupleIsFree
 refine Qc (Qf hz rfl (x:=.none) rfl (Qd ?_));simp only [if_true]
 refine Qc (wpAny_rule ?_);refine Qc (Qf hz rfl (x:=.ref b) rfl ?_)
 refine Qc (wpAny_setField_rec hz (by simp) λh1 z1 s1=>?_)
 replace z1:IsZip h1 z a b .ellipsis:=z1
 refine Qc ?_
 simp only [List.zipIdx_cons,List.zipIdx_nil,List.forIn_nil,sQ]
 refine Qc (Qc (wpAny_onRaise ?_));show wpAny _ _ (Builtin.SmallTypes.nextOf (.ref i) >>= _) _ _ _
 cases hx:xs[k]? with
 | none =>
  refine Qc (qR hh (hi.extBut s1.extBut D.iz) (ht.but s1 tz) hx λh2 e s2 he=>?_)
  obtain⟨oe,hoe,hce⟩:=he
  have z2:IsZip h2 z a b .ellipsis:=s2 _ _ D.iz.symm z1
  have ez:e≠z:=λr=>by subst r;rw [z2] at hoe;cases hoe;simp at hce
  refine wpAny_setField_rec z2 (by simp) λh3 _ s3=>Qc (wpAny_isInstance (T:="StopIteration") (b:=true) ⟨oe,s3.extBut _ _ ez hoe,hce⟩ isSubtype_stop (Qd (q _ λc o hc r=>?_)))
  simp only [yag,eD,or_false,not_or] at hc
  exact s3.extBut _ _ hc.1 (s2 _ _ hc.2.2.1 (s1.extBut _ _ hc.1 r))
 | some x =>
  have hy:ys[k]?=none:=by rcases hend with r|r;rw [hx] at r;cases r;exact r
  refine Qc (rq (hi.extBut s1.extBut D.iz) (ht.but s1 tz) hx λh2 i2 s2=>Qd ?_)
  have b2:IsPair h2 b x0 y0:=s2.extBut _ _ D.bi (s1.extBut _ _ D.bz hb)
  refine Qc (wpAny_seqItems b2 rfl ?_)
  refine Qc (wpAny_updateSeq_pair b2 λh3 b3 s3=>?_)
  refine Qc (wpAny_letGo (Qd ?_));refine Qc (Qc (wpAny_onRaise ?_))
  show wpAny _ _ (Builtin.SmallTypes.nextOf (.ref j) >>= _) _ _ _
  refine Qc (qR hh (((hj.extBut s1.extBut D.jz).extBut s2.extBut D.ij.symm).extBut s3.extBut D.bj.symm) (((hu.but s1 uz).but s2 ui).but s3 ub) hy λh4 e s4 he=>?_)
  obtain⟨oe,hoe,hce⟩:=he
  have z4:IsZip h4 z a b .ellipsis:=s4 _ _ D.jz.symm (s3.extBut _ _ D.bz.symm (s2.extBut _ _ D.iz.symm z1))
  have ez:e≠z:=λr=>by subst r;rw [z4] at hoe;cases hoe;simp at hce
  refine wpAny_setField_rec z4 (by simp) λh5 _ s5=>Qc (wpAny_isInstance (T:="StopIteration") (b:=true) ⟨oe,s5.extBut _ _ ez hoe,hce⟩ isSubtype_stop (Qd (q _ λc o hc r=>?_)))
  simp only [yag,eD,or_false,not_or] at hc
  exact s5.extBut _ _ hc.1 (s4 _ _ hc.2.2.2 (s3.extBut _ _ hc.2.1 (s2.extBut _ _ hc.2.2.1 (s1.extBut _ _ hc.1 r))))
end
end Dw
namespace Dw
open PySem PySem.Spec PyProof.Rows L2
section
variable {X:Cx}{pins:List (Addr×Obj)}{Z:L2.St}{H:Hp}{s:Shared}{h':Heap}{fp:List Addr}
theorem zP (I:Inv X pins Z H s) (hf:∀b∈fp,dZ X pins H b) (k:∀b o,b∉fp->s.heap.get? b=some o->h'.get? b=some o):Inv X pins Z H { s with heap:=h',toks:=t' }:=by
 have nit:∀b u,H b=some u->b∉fp:=λb u e z=>by have:=(hf b z).1;rw [this] at e;cases e
 refine I.step (g':=s.gens) (d':=s.drawn) (ch:=fp) (λb hb=>?_) (λb o _ _ hc e _=>k b o hc e) (λb o _ _ hc e _=>⟨o.slots,k b o hc e⟩) (λ_ _ _ _ n=>n) (λb o hc e=>⟨o,k b o hc e⟩) (λ_ _ e=>e) (λ_ _ _ e=>e) (λb ps e=>⟨#[],by rw [e];simp⟩) (λm hm=>?_) (λb u e=>?_) I.bare
 ·obtain⟨f0,f1,f2,f3,f4,f5⟩:=hf b hb
  exact⟨f3,f1,f4,f5⟩
 ·obtain⟨o,es,ep,ho,r⟩:=hm
  exact⟨o,es,ep,k _ o (λz=>(hf _ z).2.1 rfl) ho,r⟩
 ·refine (I.hok b u e).stay (λc v hc q=>k c v ?_ q) (λ_ q=>q) λ_ _ q=>q
  rcases hc with z|z
  ·rw [z];exact nit b u e
  ·exact nit c _ z
theorem zO (I:Inv X pins Z H s) (hf:∀b∈fp,dZ X pins H b) (k:∀b o,b∉fp->s.heap.get? b=some o->h'.get? b=some o) (hT:s.heap.objs.size<=T) (new:ObjOk X.prog X.w (aA H T o) h' T o):Inv X pins Z (aA H T o) { s with heap:=h',toks:=t' }:=by
 have hn:H T=none:=I.hok.fresh hT
 have neT:∀b ob,s.heap.get? b=some ob->b≠T:=λb ob e=>cD (dy (Qi e) hT)
 have nit:∀b u,H b=some u->b∉fp:=λb u e z=>by have:=(hf b z).1;rw [this] at e;cases e
 refine I.step (g':=s.gens) (d':=s.drawn) (ch:=fp) (λb hb=>?_) (λb o _ _ hc e _=>k b o hc e) (λb o _ _ hc e _=>⟨o.slots,k b o hc e⟩) (λb ob _ e n=>by rw [aX (neT b ob e)];exact n) (λb o hc e=>⟨o,k b o hc e⟩)
  (λb xs e=>by rw [aX (fx e hn)];exact e) (λb ob u e=>by rw [aX (fx e hn)];exact e) (λb ps e=>⟨#[],by rw [aX (fx e hn),e];simp⟩) (λm hm=>?_) (λb u e=>?_) I.bare
 ·obtain⟨f0,f1,f2,f3,f4,f5⟩:=hf b hb
  exact⟨f3,f1,f4,f5⟩
 ·obtain⟨o,es,ep,ho,r⟩:=hm
  exact⟨o,es,ep,k _ o (λz=>(hf _ z).2.1 rfl) ho,r⟩
 ·by_cases hb:b=T
  ·subst hb;rw [ef] at e;cases e;exact new
  ·rw [aX hb] at e
   refine (I.hok b u e).stay (λc v hc q=>k c v ?_ q) (λc q=>by rw [aX (fx q hn)];exact q) λc xs q=>by rw [aX (fx q hn)];exact q
   rcases hc with z|z
   ·rw [z];exact nit b u e
   ·exact nit c _ z
theorem qQT (I:Inv X pins Z H s) (hf:∀b∈fp,dZ X pins H b) (h:SqT X.K H a xs):a∉fp:=λz=>by
 obtain⟨f0,f1,f2,f3,f4,f5⟩:=hf a z
 rcases h with (h|⟨o,h⟩)|⟨o,its,n,hk,_⟩
 ·rw [f0] at h;cases h
 ·rw [f0] at h;cases h
 ·have hb:=I.ok.mod.kin a o hk
  rcases f3 with q|q
  ·exact I.ok.noex a o hb q
  ·exact Qn (dy (Qi (I.ok.bs a o hb).1) q) (fX _)
end
theorem qOq {s:Shared}{fp:List Addr}(I:Inv X pins Z H s) (hf:∀b∈fp,dZ X pins H b) {a:Addr}{xs:List V}(h:SqL X.K H a xs):a∉fp:=λz=>by
 obtain⟨f0,f1,f2,f3,f4,f5⟩:=hf a z
 rcases h with (h|⟨o,h⟩)|⟨o,its,n,hk,_⟩
 ·rw [f0] at h;cases h
 ·rw [f0] at h;cases h
 ·have hb:=I.ok.mod.kin a o hk
  rcases f3 with q|q
  ·exact I.ok.noex a o hb q
  ·exact Qn (dy (Qi (I.ok.bs a o hb).1) q) (fX _)
def SqK:Bool->Qb->Hp->Addr->List V->Prop
 | true,K,H,a,xs=>SqL K H a xs
 | false,K,H,a,xs=>SqT K H a xs
section
variable {X:Cx}{pins:List (Addr×Obj)}{Z:L2.St}{H:Hp}{s:Shared}{fp:List Addr}{a:Addr}{xs ys:List V}{kd:Bool}
theorem SqK.its (I:Inv X pins Z H s) (h:SqK kd X.K H a xs):∃its,Vals xs its/\SqH kd s.heap a its.toArray/\xs.length<=sizeLine:=by
 cases kd with
 | true=>obtain⟨its,r,p,z⟩:=I.list h;exact⟨its,r,p.isList,z⟩
 | false=>obtain⟨its,r,p,z⟩:=I.tuple h;exact⟨its,r,p,z⟩
theorem SqK.nfp (I:Inv X pins Z H s) (hf:∀b∈fp,dZ X pins H b) (h:SqK kd X.K H a xs):a∉fp:=by
 cases kd with
 | true=>exact qOq I hf h
 | false=>exact qQT I hf h
theorem SqK.inj (I:Inv X pins Z H s) (h:SqK kd X.K H a xs) (h':SqK kd X.K H a ys):xs=ys:=by
 cases kd with
 | true=>exact I.list_inj h h'
 | false=>exact I.tuple_inj h h'
end
def xR (kd ke:Bool) (K:Qb) (a b:Addr):It:=
 ⟨λi H=>∃xs ys x y,SqK kd K H a xs/\SqK ke K H b ys/\xs[i]?=some x/\ys[i]?=some y,
  λi H v H'=>∃T x y,H T=none/\v=.ref T/\(∀xs,SqK kd K H a xs->xs[i]?=some x)/\(∀ys,SqK ke K H b ys->ys[i]?=some y)/\H'=aA H T (.tup [x,y]),
  λi H=>∃xs ys,SqK kd K H a xs/\SqK ke K H b ys/\(xs.length<=i∨ys.length<=i)⟩
theorem qJZ {w:World}{K:Qb}{es:List Expr}{kk:Nat}{pos:Pos}{z p q i j:Addr}(a b:Addr) (D:Zp z p q i j):Turn P w K (.Tuple es kk pos) (xR kd ke K a b) [z,p,q,i,j] z (λk h=>Zs kd ke h z p q i j a b k) where
 mem:=by simp
 obj:=λk h S c hc=>by
  obtain⟨hz,hp,⟨x,y,hq⟩,hi,hj⟩:=S
  simp only [yag,eD,or_false] at hc
  rcases hc with rfl|rfl|rfl|rfl|rfl
  ·exact⟨_,hz,λv r=>by have r':Data.fields _=Data.cell v:=r;cases r'⟩
  ·exact⟨_,hp,λv r=>by have r':Data.seq _ _=Data.cell v:=r;cases r'⟩
  ·exact⟨_,hq,λv r=>by have r':Data.seq _ _=Data.cell v:=r;cases r'⟩
  ·exact hi.rec'
  ·exact hj.rec'
 keep:=λk h h' S kp=>by
  obtain⟨hz,hp,⟨x,y,hq⟩,hi,hj⟩:=S
  exact⟨kp z (by simp) _ hz,kp p (by simp) _ hp,⟨x,y,kp q (by simp) _ hq⟩,hi.at λo e=>kp i (by simp) o e,hj.at λo e=>kp j (by simp) o e⟩
 item:=by
  intro X hP hw hK hc k pins s Z H E I hf S hg
  subst hP hw hK
  obtain⟨xs,ys,x,y,ha,hb,hx,hy⟩:=hg
  obtain⟨i1,r1,p1,z1⟩:=ha.its I
  obtain⟨i2,r2,p2,z2⟩:=hb.its I
  obtain⟨u,hu,ru⟩:=r1.get hx
  obtain⟨v,hv,rv⟩:=r2.get hy
  have na:=ha.nfp I hf
  have nb:=hb.nfp I hf
  refine qMM D S p1 p2 na nb (x:=u) (y:=v) (by simpa using hu) (by simpa using hv) λh' e1 e2 e3 e4 e5 e6 kp=>?_
  refine⟨_,rfl,wpAny_letOwnedTupleGo_zip e1 λh2 f1 f2=>?_⟩
  have ltz:z<s.heap.objs.size:=Qi S.hz
  have nT:s.heap.objs.size≠z:=iv ltz
  have kp2:∀c o,c∉[z,p,q,i,j]->s.heap.get? c=some o->h2.get? c=some o:=λc o hc e=>by
   simp only [yag,eD,or_false,not_or] at hc
   exact f2.extBut _ _ hc.1 (kp c o (by simp [hc]) e)
  have hpp:s.heap.get? p=some _:=S.ha
  have I2:=zO (t':=s.toks) (T:=s.heap.objs.size) (o:=.tup [x,y]) I hf kp2 (aK _) ⟨by show 2<=sizeLine;decide,[u,v],.cons ru (.cons rv .nil),⟨_,f2.extBut _ _ nT e5,rfl,_,rfl⟩⟩
  have hn:H s.heap.objs.size=none:=I.hok.fresh (aK _)
  obtain⟨x1,y1,e2⟩:=e2
  refine⟨.ref s.heap.objs.size,aA H s.heap.objs.size (.tup [x,y]),I2,rfl,⟨_,x,y,hn,rfl,λzs hz=>by rw [SqK.inj I hz ha];exact hx,λzs hz=>by rw [SqK.inj I hz hb];exact hy,rfl⟩,
   ⟨f1,f2.extBut _ _ D.az (kp _ _ (by simp [D.az,D.ab,D.ai,D.aj]) S.ha),⟨x1,y1,f2.extBut _ _ D.bz e2⟩,e3.extBut f2.extBut D.iz,e4.extBut f2.extBut D.jz⟩,λc hc=>?_⟩
  have hlt:c<s.heap.objs.size:=by
   obtain⟨hz,hp,⟨x,y,hq⟩,hi,hj⟩:=S
   simp only [yag,eD,or_false] at hc
   rcases hc with rfl|rfl|rfl|rfl|rfl
   ·exact Qi hz
   ·exact Qi hp
   ·exact Qi hq
   ·obtain⟨o,e,_⟩:=hi.rec';exact Qi e
   ·obtain⟨o,e,_⟩:=hj.rec';exact Qi e
  rw [aX (cD hlt)]
  exact (hf c hc).1
 done:=by
  intro X hP hw hK hc k pins s Z H E I hf S hg
  subst hP hw hK
  obtain⟨xs,ys,ha,hb,he⟩:=hg
  obtain⟨i1,r1,p1,z1⟩:=ha.its I
  obtain⟨i2,r2,p2,z2⟩:=hb.its I
  have l1:=r1.length
  have l2:=r2.length
  refine qML (I.ok.hd hc) D S p1 p2 (ha.nfp I hf) (hb.nfp I hf) (by
   rcases he with r|r
   ·exact .inl (by simp;omega)
   ·exact .inr (by simp;omega)) λh' kp=>⟨rfl,zP (t':=s.toks) I hf λc o hc e=>kp c o (by simp at hc ⊢;simp [hc]) e⟩
 self:=λ_ _ _ _ _ S h=>wpAny_pyIter_zip S.hz h
def SqF:Bool->Qb->Hp->Fz->Addr->List V->Prop
 | true,K,H,F,a,xs=>LsR K H F a xs
 | false,K,H,_,a,xs=>SqT K H a xs
theorem SqF.keep {K:Qb}{H H':Hp}{F F':Fz}{a:Addr}{xs:List V}(h:SqF kd K H F a xs) (k:Keep H F H' F'):SqK kd K H' a xs:=by
 cases kd with
 | true=>exact LsR.sq (h.elim (λz=>.inl (k.lsts _ _ z.1 z.2)) .inr)
 | false=>exact h.elim (λz=>.inl (k.tups _ _ z)) .inr
theorem qP {K:Qb}{H:Hp}{F:Fz}{a b:Addr}{ds es:List D}{vs ws:List V}(ha:SqF kd K H F a vs) (hb:SqF ke K H F b ws) (ra:RDs K H F ds vs) (rb:RDs K H F es ws):ItOk K (xR kd ke K a b) H F (cF ds es):=by
 intro H' F' k dom
 have ha':SqK kd K H' a vs:=ha.keep k
 have hb':SqK ke K H' b ws:=hb.keep k
 have ra':=RDs.mono k ra
 have rb':=RDs.mono k rb
 have la:=RDs.length ra'
 have lb:=RDs.length rb'
 refine⟨λi d hd=>?_,⟨vs,ws,ha',hb',?_⟩⟩
 ·unfold cF at hd
  rw [List.getElem?_zipWith] at hd
  cases h1:ds[i]? with
  | none=>simp [h1] at hd
  | some d1 =>
   cases h2:es[i]? with
   | none=>simp [h1,h2] at hd
   | some d2 =>
    simp [h1,h2] at hd
    subst hd
    obtain⟨v,e1,e2⟩:=RDs.get ra' h1
    obtain⟨w,e3,e4⟩:=RDs.get rb' h2
    refine⟨⟨vs,ws,v,w,ha',hb',e1,e3⟩,λx H3 y=>?_⟩
    obtain⟨T,x1,y1,hT,rfl,q1,q2,rfl⟩:=y
    have:=q1 vs ha'
    rw [e1] at this
    cases this
    have:=q2 ws hb'
    rw [e3] at this
    cases this
    obtain⟨g,rr⟩:=lY (ds:=[d1,d2]) dom hT ⟨v,[w],rfl,e2,w,[],rfl,e4,rfl⟩
    exact⟨F',g,rr⟩
 ·unfold cF
  rw [m7]
  omega
section
variable {prog:Program}{w:World}{A:Around}{E:Value->Shared->Prop}{s:Shared}
noncomputable def DW:Bool->String
 | true=>"list_iterator"
 | false=>"tuple_iterator"
abbrev oT (kd:Bool) (h:Heap) (a:Addr):Heap:=h.push { cls:=.type (DW kd),data:=.fields #[.ref a,.int 0 0] }
abbrev oS (kd ke:Bool) (h:Heap) (a b:Addr):Heap:=(oT kd h a).push { cls:=.type (DW ke),data:=.fields #[.ref b,.int 0 0] }
abbrev oR (kd ke:Bool) (h:Heap) (a b:Addr):Heap:=(oS kd ke h a b).push { cls:=.type "tuple",data:=.seq #[.ref h.objs.size,.ref (oT kd h a).objs.size] }
abbrev oQ (kd ke:Bool) (h:Heap) (a b:Addr):Heap:=(oR kd ke h a b).push { cls:=.type "tuple",data:=.seq #[.none,.none] }
abbrev kN (kd ke:Bool) (h:Heap) (a b:Addr):Heap:=(oQ kd ke h a b).push { cls:=.type "zip",data:=.fields #[.none,.bool false,.bool false,.ref (oS kd ke h a b).objs.size,.ref (oR kd ke h a b).objs.size] }
theorem qJV (kd ke:Bool) (a b:Addr) (xs ys:Array Value):Meets (Builtin.«zip.__new__» ⟨[.type "zip",.ref a,.ref b],[]⟩) (λ_ R s=>SqH kd s.heap a xs/\SqH ke s.heap b ys/\R (.ok (.ret (.ref (oQ kd ke s.heap a b).objs.size))) { s with heap:=kN kd ke s.heap a b }):=
 .of_wp λprog w A R s h=>by
  obtain⟨hp,g,d,tk,os⟩:=s;obtain⟨h1,h2,h⟩:=h;have hsub:=sub_zip
  cases kd with
  | false =>
   cases ke with
   | false =>
    have H1:Heap.IsTuple (Shared.heap ⟨hp,g,d,tk,os⟩) a xs:=h1
    have H2:Heap.IsTuple (Shared.heap ⟨hp.push { cls:=.type "tuple_iterator",data:=.fields #[.ref a,.int 0 0] },g,d,tk,os⟩) b ys:=Heap.IsTuple.push h2 _
    wp_walk using wpAny_pyIter_tuple H1,wpAny_pyIter_tuple H2
    exact⟨_,rfl,h⟩
   | true =>
    have H1:Heap.IsTuple (Shared.heap ⟨hp,g,d,tk,os⟩) a xs:=h1
    have H2:Heap.IsList (Shared.heap ⟨hp.push { cls:=.type "tuple_iterator",data:=.fields #[.ref a,.int 0 0] },g,d,tk,os⟩) b ys:=Heap.IsList.push h2 _
    wp_walk using wpAny_pyIter_tuple H1,wpAny_pyIter_list H2
    exact⟨_,rfl,h⟩
  | true =>
   cases ke with
   | false =>
    have H1:Heap.IsList (Shared.heap ⟨hp,g,d,tk,os⟩) a xs:=h1
    have H2:Heap.IsTuple (Shared.heap ⟨hp.push { cls:=.type "list_iterator",data:=.fields #[.ref a,.int 0 0] },g,d,tk,os⟩) b ys:=Heap.IsTuple.push h2 _
    wp_walk using wpAny_pyIter_list H1,wpAny_pyIter_tuple H2
    exact⟨_,rfl,h⟩
   | true =>
    have H1:Heap.IsList (Shared.heap ⟨hp,g,d,tk,os⟩) a xs:=h1
    have H2:Heap.IsList (Shared.heap ⟨hp.push { cls:=.type "list_iterator",data:=.fields #[.ref a,.int 0 0] },g,d,tk,os⟩) b ys:=Heap.IsList.push h2 _
    wp_walk using wpAny_pyIter_list H1,wpAny_pyIter_list H2
    exact⟨_,rfl,h⟩
theorem qJW (ha:SqH kd s.heap a xs) (hb:SqH ke s.heap b ys)
  (h:∀h',Zs kd ke h' (s.heap.objs.size+4) (s.heap.objs.size+2) (s.heap.objs.size+3) s.heap.objs.size (s.heap.objs.size+1) a b 0->(∀c o,s.heap.get? c=some o->h'.get? c=some o)->Q (.ref (s.heap.objs.size+4)) { s with heap:=h' }):wpAny (model prog w) A (call (.type "zip") [.ref a,.ref b]) Q E s:=by
 refine callType_new F.called_zip (by decide) (F.typeCall_zip_2 _ _) (F.newCall_zip_2 _ _) (λobj=>F.args_object_init_3 obj _ _) F.entry_zip_new (qJV kd ke a b xs ys) ⟨ha,hb,?_⟩
 have z1:(oT kd s.heap a).objs.size=s.heap.objs.size+1:=Heap.size_push ..
 have z2:(oS kd ke s.heap a b).objs.size=s.heap.objs.size+2:=by rw [Heap.size_push,z1]
 have z3:(oR kd ke s.heap a b).objs.size=s.heap.objs.size+3:=by rw [Heap.size_push,z2]
 have z4:(oQ kd ke s.heap a b).objs.size=s.heap.objs.size+4:=by rw [Heap.size_push,z3]
 have g5:(kN kd ke s.heap a b).get? (oQ kd ke s.heap a b).objs.size=some _:=Qh _ rfl
 have g4:(kN kd ke s.heap a b).get? (oR kd ke s.heap a b).objs.size=some _:=Qg _ (Qh _ rfl)
 have g3:(kN kd ke s.heap a b).get? (oS kd ke s.heap a b).objs.size=some _:=Qg _ (Qg _ (Qh _ rfl))
 have g2:(kN kd ke s.heap a b).get? (oT kd s.heap a).objs.size=some _:=Qg _ (Qg _ (Qg _ (Qh _ rfl)))
 have g1:(kN kd ke s.heap a b).get? s.heap.objs.size=some _:=Qg _ (Qg _ (Qg _ (Qg _ (Qh _ rfl))))
 show _/\_
 rw [z2,z3,z4] at g5;rw [z1,z2] at g3;rw [z3] at g4;rw [z1] at g2;rw [z4]
 exact⟨⟨_,g5,rfl⟩,h _ ⟨g5,g3,⟨_,_,g4⟩,(by cases kd with|true=>exact⟨_,g1,rfl,rfl⟩|false=>exact⟨_,g1,rfl,rfl⟩),(by cases ke with|true=>exact⟨_,g2,rfl,rfl⟩|false=>exact⟨_,g2,rfl,rfl⟩)⟩ λc o x=>Qg _ (Qg _ (Qg _ (Qg _ (Qg _ x))))⟩
end
theorem qJU (n:Nat):Zp (n+4) (n+2) (n+3) n (n+1):=by
 constructor<;>(intro h;have h':(_:Nat)=_:=h;omega)
section
variable {X:Cx}
theorem qLw:Qo (Qa "zip")=some (.type "zip"):=by decide +kernel
def qVo (K:Qb) (ta:TA):TI:=fun Z H R=>ta Z H λvs H1=>∃(kd ke:Bool) (a b:Addr) (xs ys:List V),vs=[.ref a,.ref b]/\SqK kd K H1 a xs/\SqK ke K H1 b ys/\(xs.length<=sizeLine->R (xR kd ke K a b) H1)
theorem qQs {kk:Nat}{tp:Pos}{x:Str}{a b:Expr}{ta:TA}{p pos:Pos}(hx:x=Qa "zip") (hg:Gl X x) (hm:X.mg x=none) (ha:PA X [a,b] ta) (hs:starEach [a,b] X.env=[(false,eval a X.env),(false,eval b X.env)]) (hs2:starEach [b] X.env=[(false,eval b X.env)]) :
  PI X (.Tuple es kk tp) (.Call (.Name x p) [a,b] [] pos) (qVo X.K ta):=by
 subst hx
 intro pins s Z H R I h
 refine Call_ (f9 I hg hm qLw (gP (aF (ha pos pins s Z H _ I h) λus s1 ⟨vs,H1,I1,r1,q1⟩=>?_) (by rw [hs,hs2]) (by rw [hs2];rfl)))
 obtain⟨kd,ke,a1,b1,xs,ys,rfl,hx,hy,q⟩:=q1
 cases r1 with
 | cons ra rr =>
  cases rr with
  | cons rb rr =>
   cases rr
   cases ra
   cases rb
   obtain⟨t1,v1,p1,zl⟩:=hx.its I1
   obtain⟨t2,v2,p2,_⟩:=hy.its I1
   refine qJW p1 p2 λh' S kp=>wpAny_pyIter_zip S.hz ?_
   have I2:Inv X pins Z H1 { s1 with heap:=h' }:=I1.kept (t':=s1.toks) kp
   refine⟨_,[s1.heap.objs.size+4,s1.heap.objs.size+2,s1.heap.objs.size+3,s1.heap.objs.size,s1.heap.objs.size+1],_,_,H1,rfl,I2,qJZ a1 b1 (qJU _),S,λc hc=>?_,q zl⟩
   have hge:s1.heap.objs.size<=c:=by
    simp only [yag,eD,or_false] at hc
    rcases hc with rfl|rfl|rfl|rfl|rfl<;>omega
   exact I1.fpOk hge (I1.hok.fresh hge)
end
end Dw
namespace Dw
open PySem PySem.Spec PyProof.Rows L2
section
open AutoSeq1 (wpAny_loadPart')
theorem qG6 (l:Addr) (items:Array Value) (n:Nat) (dct:Option Addr) (sl:Array (Option Value)) :
  Meets (Builtin.«enumerate.__new__» ⟨[.type "enumerate",.ref l],[]⟩) (λ_ R s=>s.heap.get? l=some { cls:=.type "tuple",dict:=dct,data:=.seq items n,slots:=sl } /\
   R (.ok (.ret (.ref (s.heap.push { cls:=.type "tuple_iterator",data:=.fields #[.ref l,.int 0 0] }).objs.size)))
    { s with heap:=(s.heap.push { cls:=.type "tuple_iterator",data:=.fields #[.ref l,.int 0 0] }).push { cls:=.type "enumerate",data:=.fields #[.none,.bool false,.ref s.heap.objs.size,rawInt 0,.none,.none] } }):=
 .of_wp λprog w A R s h=>by
  obtain⟨hp,g,d,tk,os⟩:=s;obtain⟨hl,h⟩:=h
  have hsub:=sub_enumerate
  have hL:Heap.IsTuple (Shared.heap ⟨hp,g,d,tk,os⟩) l items:=⟨_,hl,rfl,n,rfl⟩
  wp_walk using wpAny_loadPart' hl
  refine wpAny_stack_any λst=>Qd ?_
  split
  ·rename_i c _ _ _ _ _
   cases (c == Value.type "enumerate")
   ·wp_walk using wpAny_loadPart' hl,wpAny_pyIter_tuple hL
    exact⟨_,rfl,h⟩
   ·wp_walk using wpAny_loadPart' hl,wpAny_pyIter_tuple hL
    exact⟨_,rfl,h⟩
  ·wp_walk using wpAny_loadPart' hl,wpAny_pyIter_tuple hL
   exact⟨_,rfl,h⟩
end
structure Es (kd:Bool) (h:Heap) (e i t:Addr) (k:Nat):Prop where
 he:∃old,IsEnum h e i ((k:Nat):Int) old
 hi:SqI kd h i t k
section
variable {prog:Program}{w:World}{A:Around}{E:Value->Shared->Prop}{s:Shared}
theorem SqH.at (x:SqH kd h t its) (e:∀o,h.get? t=some o->h'.get? t=some o):SqH kd h' t its:=by
 cases kd with
 | true=>obtain⟨o,a,b⟩:=x;exact⟨o,e _ a,b⟩
 | false=>obtain⟨o,a,b⟩:=x;exact⟨o,e _ a,b⟩
theorem qLo (hh:A.handled=none) (i t:Addr) (ne:t≠i) (its:Array Value):Draws prog w A i [i,t] its.size (λk x=>its[k]?=some x) (λk h=>SqI kd h i t k/\SqH kd h t its) where
 live:=λk h st=>by obtain⟨o,e,_⟩:=st.1.rec';exact⟨o,e⟩
 frame:=λk h h' st hk=>⟨st.1.at λo e=>hk i (by simp) o e,st.2.at λo e=>hk t (by simp) o e⟩
 item:=λk s Q E hk st q=>rq st.1 st.2 (y:=its[k]) (by simp [hk]) λh1 i1 s1=>q its[k] h1 s.toks (by simp [hk]) ⟨i1,st.2.but s1 ne⟩ s1
 done:=λs Q E st q=>qR hh st.1 st.2 (by simp) q
theorem qI9 (ha:SqH kd s.heap a xs)
  (h:∀h',Es kd h' (s.heap.objs.size+1) s.heap.objs.size a 0->(∀c o,s.heap.get? c=some o->h'.get? c=some o)->Q (.ref (s.heap.objs.size+1)) { s with heap:=h' }):wpAny (model prog w) A (call (.type "enumerate") [.ref a]) Q E s:=by
 cases kd with
 | true=>exact call_enumerate_list ha λh' e1 e2 _ k=>h h' ⟨⟨_,e1⟩,e2⟩ k
 | false =>
  obtain⟨⟨c,dct,dt,sl⟩,hl,hc,n,hd⟩:=ha
  replace hc:c=.type "tuple":=hc
  replace hd:dt=.seq xs n:=hd
  subst hc hd
  refine callType_new F.called_enumerate (by decide) (F.typeCall_enumerate_1 _) (F.newCall_enumerate_1 _) (λobj=>F.args_object_init_2 obj _) F.entry_enumerate_new (qG6 a xs n dct sl) ⟨hl,?_⟩
  have hz:(s.heap.push { cls:=.type "tuple_iterator",data:=.fields #[.ref a,.int 0 0] }).objs.size=s.heap.objs.size+1:=Heap.size_push ..
  show _/\_
  rw [hz]
  have he:IsEnum ((s.heap.push { cls:=.type "tuple_iterator",data:=.fields #[.ref a,.int 0 0] }).push
    { cls:=.type "enumerate",data:=.fields #[.none,.bool false,.ref s.heap.objs.size,rawInt 0,.none,.none] }) (s.heap.objs.size+1) s.heap.objs.size 0 .none:=by
   have:=Qh (s.heap.push { cls:=.type "tuple_iterator",data:=.fields #[.ref a,.int 0 0] })
    (o:={ cls:=.type "enumerate",data:=.fields #[.none,.bool false,.ref s.heap.objs.size,rawInt 0,.none,.none] }) rfl
   rw [hz] at this;exact this
  exact⟨⟨_,he,rfl⟩,h _ ⟨⟨_,he⟩,⟨_,Qg _ (Qh _ rfl),rfl,rfl⟩⟩ λb o x=>Qg _ (Qg _ x)⟩
end
def xT (kd:Bool) (K:Qb) (a:Addr):It:=
 ⟨λi H=>∃xs x,SqK kd K H a xs/\xs[i]?=some x,
  λi H v H'=>∃T x,H T=none/\v=.ref T/\(∀xs,SqK kd K H a xs->xs[i]?=some x)/\H'=aA H T (.tup [.int ((i:Nat):Int),x]),
  λi H=>∃xs,SqK kd K H a xs/\xs.length<=i⟩
theorem qJ0 {w:World}{K:Qb}{es:List Expr}{kk:Nat}{pos:Pos}{e i:Addr}(a:Addr) (ne:e≠i):Turn P w K (.Tuple es kk pos) (xT kd K a) [e,i] e (λk h=>Es kd h e i a k) where
 mem:=by simp
 obj:=λk h S c hc=>by
  obtain⟨⟨old,he⟩,hi⟩:=S
  simp only [yag,eD,or_false] at hc
  rcases hc with rfl|rfl
  ·exact⟨_,he,λv r=>by have r':Data.fields _=Data.cell v:=r;cases r'⟩
  ·exact hi.rec'
 keep:=λk h h' S kp=>by
  obtain⟨⟨old,he⟩,hi⟩:=S
  exact⟨⟨old,kp e (by simp) _ he⟩,hi.at λo e=>kp i (by simp) o e⟩
 item:=by
  intro X hP hw hK hc k pins s Z H E I hf S hg
  subst hP hw hK
  obtain⟨xs,x,ha,hx⟩:=hg
  obtain⟨i1,r1,p1,z1⟩:=ha.its I
  obtain⟨u,hu,ru⟩:=r1.get hx
  have na:=ha.nfp I hf
  simp only [yag,eD,or_false,not_or] at na
  obtain⟨⟨old,he⟩,hi⟩:=S
  have hlt:k<i1.toArray.size:=by
   have:=(yal.mp hu).1
   simpa using this
  refine wpAny_pyNext_enum_itemD (qLo (A:=X.A.in1) (I.ok.hd hc) i a na.2 i1.toArray) he ⟨hi,p1⟩ hlt ne (by simp only [yag,eD,or_false,not_or];exact⟨ne,Ne.symm na.1⟩) λx1 h' tk hPx ho hs' hT hsz kp=>?_
  have ex:x1=u:=by
   have h2:i1[k]?=some x1:=by simpa using hPx
   rw [hu] at h2;exact (fU h2).symm
  subst ex
  refine⟨_,rfl,wpAny_letOwnedTupleGo_enum ho λh2 f1 f2=>?_⟩
  have lte:e<s.heap.objs.size:=Qi he
  have nT:s.heap.objs.size≠e:=iv lte
  have kp2:∀c o,c∉[e,i]->s.heap.get? c=some o->h2.get? c=some o:=λc o hc q=>by
   simp only [yag,eD,or_false,not_or] at hc
   exact f2.extBut _ _ hc.1 (kp c o hc.1 hc.2 q)
  have I2:=zO (t':=tk+1) (T:=s.heap.objs.size) (o:=.tup [.int ((k:Nat):Int),x]) I hf kp2 (aK _) ⟨by show 2<=sizeLine;decide,[.int k tk,x1],.cons ⟨tk,rfl⟩ (.cons ru .nil),⟨_,f2.extBut _ _ nT hT,rfl,_,rfl⟩⟩
  have hn:H s.heap.objs.size=none:=I.hok.fresh (aK _)
  refine⟨.ref s.heap.objs.size,aA H s.heap.objs.size (.tup [.int ((k:Nat):Int),x]),I2,rfl,⟨_,x,hn,rfl,λzs hz=>by rw [SqK.inj I hz ha];exact hx,rfl⟩,⟨⟨x1,by simpa using f1⟩,hs'.1.extBut f2.extBut (Ne.symm ne)⟩,λc hc=>?_⟩
  have hlt:c<s.heap.objs.size:=by
   simp only [yag,eD,or_false] at hc
   rcases hc with rfl|rfl
   ·exact lte
   ·obtain⟨o,q,_⟩:=hi.rec';exact Qi q
  rw [aX (cD hlt)]
  exact (hf c hc).1
 done:=by
  intro X hP hw hK hc k pins s Z H E I hf S hg
  subst hP hw hK
  obtain⟨xs,ha,hl⟩:=hg
  obtain⟨i1,r1,p1,z1⟩:=ha.its I
  have l1:=r1.length
  have na:=ha.nfp I hf
  simp only [yag,eD,or_false,not_or] at na
  obtain⟨⟨old,he⟩,hi⟩:=S
  have hT:s.TypeIs (.ref e) "enumerate":=⟨_,he,rfl⟩
  unfold pyNext
  refine Qc (wpAny_attempt (wpAny_callSpecial?_slot (name:=Qa "__next__") hT F.slot_enumerate_next
   (wpAny_call_entry F.slot_enumerate_next hT F.entry_enumerate_next ?_ (F.args_enumerate_next_1 _))))
  show wpAny _ _ (field (.ref e) 2 >>= _) _ _ _
  refine Qc (Qf he rfl (x:=.ref i) rfl ?_)
  refine Qc (qR (I.ok.hd hc) hi p1 (by simp;omega) λh' x he' hx'=>?_)
  obtain⟨o,ho,hcc⟩:=hx'
  refine Qc (wpAny_isInstance (T:="StopIteration") (b:=true) ⟨o,ho,hcc⟩ isSubtype_stop ?_)
  exact Qd ⟨rfl,zP (t':=s.toks) I hf λc o hc q=>he' c o (λr=>hc (by simp [r])) q⟩
 self:=λ_ _ _ _ _ S h=>by obtain⟨⟨old,he⟩,_⟩:=S;exact wpAny_pyIter_enum he h
theorem Aa {K:Qb}{H:Hp}{F:Fz}{a:Addr}{ds:List D}{vs:List V}(ha:SqF kd K H F a vs) (ra:RDs K H F ds vs):ItOk K (xT kd K a) H F (ee 0 ds):=by
 intro H' F' k dom
 have ha':SqK kd K H' a vs:=ha.keep k
 have ra':=RDs.mono k ra
 have la:=RDs.length ra'
 refine⟨λi d hd=>?_,⟨vs,ha',?_⟩⟩
 ·rw [qJa] at hd
  cases h1:ds[i]? with
  | none=>simp [h1] at hd
  | some d1 =>
   simp only [h1,mV,tm,Nat.zero_add] at hd
   subst hd
   obtain⟨v,e1,e2⟩:=RDs.get ra' h1
   refine⟨⟨vs,v,ha',e1⟩,λx H3 y=>?_⟩
   obtain⟨T,x1,hT,rfl,q1,rfl⟩:=y
   have:=q1 vs ha'
   rw [e1] at this
   cases this
   obtain⟨g,rr⟩:=lY (ds:=[.int ((i:Nat):Int),d1]) dom hT ⟨.int ((i:Nat):Int),[v],rfl,rfl,v,[],rfl,e2,rfl⟩
   exact⟨F',g,rr⟩
 ·rw [vN]
  omega
section
variable {X:Cx}
theorem qLx:Qo (Qa "enumerate")=some (.type "enumerate"):=by decide +kernel
def qVr (K:Qb) (ta:TA):TI:=fun Z H R=>ta Z H λvs H1=>∃(kd:Bool) (a:Addr) (xs:List V),vs=[.ref a]/\SqK kd K H1 a xs/\(xs.length<=sizeLine->R (xT kd K a) H1)
theorem qQu {kk:Nat}{tp:Pos}{x:Str}{a:Expr}{ta:TA}{p pos:Pos}(hx:x=Qa "enumerate") (hg:Gl X x) (hm:X.mg x=none) (ha:PA X [a] ta) (hs:starEach [a] X.env=[(false,eval a X.env)]) :
  PI X (.Tuple es kk tp) (.Call (.Name x p) [a] [] pos) (qVr X.K ta):=by
 subst hx
 intro pins s Z H R I h
 refine Call_ (f9 I hg hm qLx (gP (aF (ha pos pins s Z H _ I h) λus s1 ⟨vs,H1,I1,r1,q1⟩=>?_) (by rw [hs];rfl) (by rfl)))
 obtain⟨kd,a1,xs,rfl,hx,q⟩:=q1
 cases r1 with
 | cons ra rr =>
  cases rr
  cases ra
  obtain⟨t1,v1,p1,zl⟩:=hx.its I1
  refine qI9 p1 λh' S kp=>?_
  obtain⟨⟨old,he⟩,hi⟩:=S
  refine wpAny_pyIter_enum he ?_
  have I2:Inv X pins Z H1 { s1 with heap:=h' }:=I1.kept (t':=s1.toks) kp
  refine⟨_,[s1.heap.objs.size+1,s1.heap.objs.size],_,_,H1,rfl,I2,qJ0 a1 (Nat.succ_ne_self _),⟨⟨old,he⟩,hi⟩,λc hc=>?_,q zl⟩
  have hge:s1.heap.objs.size<=c:=by
   simp only [yag,eD,or_false] at hc
   rcases hc with rfl|rfl<;>omega
  exact I1.fpOk hge (I1.hok.fresh hge)
end
end Dw
namespace Dw
open PySem PySem.Spec PyProof.Rows L2
noncomputable def fE (env:Env):List (Str×NameKind)->List (Str×Addr)->List (Str×Addr)
 | [],acc=>acc
 | (n,k)::r,acc=>fE env r (if k == .free then (n,(env.cells.lookup n).getD 0)::acc else acc)
theorem A1 (env:Env):∀(l:List (Str×NameKind)) (acc:List (Str×Addr)),(∀y∈l,y.2=.free->∃c,env.cells.lookup y.1=some c) ->
  (do
   let mut cs:=acc
   for (name,kind) in l do
    if kind == .free then cs:=(name,<-cellOf env name)::cs
   return cs:Sem (List (Str×Addr)))=pure (fE env l acc)
 | [],acc,_=>rfl
 | (n,k)::r,acc,h=>by
  have ih:=λa=>A1 env r a λy hy=>h y (dM _ hy)
  simp only [sQ]
  cases hk:k == NameKind.free with
  | true =>
   obtain⟨c,hc⟩:=h (n,k) dz (by simpa using hk)
   have e:cellOf env n=pure c:=by unfold cellOf;rw [hc]
   simp only [if_true]
   rw [e]
   have:=ih ((n,c)::acc)
   simp only [fE,hk,if_true,hc,tf]
   exact this
  | false =>
   simp only [fE,hk,jM,if_false]
   exact ih acc
theorem qO1 (sc:Scope) (env:Env) (h:∀y∈sc.names,y.2=.free->∃c,env.cells.lookup y.1=some c):closureFor sc env=pure (fE env sc.names []):=A1 env sc.names [] h
theorem Dg (env:Env):∀(l:List (Str×NameKind)) (acc:List (Str×Addr)) (x:Str) (c:Addr),(fE env l acc).lookup x=some c->acc.lookup x=some c∨((x,NameKind.free)∈l/\c=(env.cells.lookup x).getD 0)
 | [],acc,x,c,h=>.inl h
 | (n,k)::r,acc,x,c,h=>by
  rcases Dg env r _ x c h with q|q
  ·split at q
   ·rename_i hk
    rw [jK] at q
    split at q
    ·rename_i hx
     have e1:x=n:=by simpa using hx
     have e2:k=.free:=by simpa using hk
     subst e1 e2
     cases q
     exact .inr ⟨dz,rfl⟩
    ·exact .inl q
   ·exact .inl q
  ·exact .inr ⟨dM _ q.1,q.2⟩
theorem vm (env:Env):∀(l:List (Str×NameKind)) (acc:List (Str×Addr)) (x:Str),((x,NameKind.free)∈l∨(acc.lookup x).isSome=true)->∃c,(fE env l acc).lookup x=some c
 | [],acc,x,h=>by
  rcases h with h|h
  ·cases h
  ·exact Option.isSome_iff_exists.mp h
 | (n,k)::r,acc,x,h=>by
  refine vm env r _ x ?_
  rcases h with h|h
  ·rcases yag.mp h with e|e
   ·cases e
    exact .inr (by simp)
   ·exact .inl e
  ·refine .inr ?_
   split
   ·rw [jK]
    split
    ·rfl
    ·exact h
   ·exact h
theorem j2 {sc:Scope}{x:Str}{c:Addr}(h:∀y∈sc.names,y.2=.free->∃c,env.cells.lookup y.1=some c) (e:(fE env sc.names []).lookup x=some c):env.cells.lookup x=some c:=by
 rcases Dg env _ _ x c e with q|⟨q1,q2⟩
 ·cases q
 ·obtain⟨c',hc⟩:=h _ q1 rfl
  have hc':env.cells.lookup x=some c':=hc
  rw [q2,hc']
  rfl
theorem DA {env:Env}:∀{names:List (Str×NameKind)}{x:Str},
  (names.map λ(n,k)=>if (k == NameKind.free&&env.scope.kind == .function&&env.kindOf n == some .cell) then (n,NameKind.cell) else (n,k)).lookup x =
   (names.lookup x).map λk=>if (k == NameKind.free&&env.scope.kind == .function&&env.kindOf x == some .cell) then NameKind.cell else k
 | [],x=>rfl
 | (n,k)::r,x=>by
  have ih:=@DA env r x
  show List.lookup x ((if (k == NameKind.free&&env.scope.kind == .function&&env.kindOf n == some .cell)=true then (n,NameKind.cell) else (n,k))::_)=_
  cases hx:x == n with
  | true =>
   have e:x=n:=by simpa using hx
   subst e
   cases hc:(k == NameKind.free&&env.scope.kind == .function&&env.kindOf x == some .cell)<;>simp only [jK,hc,beq_self_eq_true,if_true,jM,if_false,mV]
  | false =>
   cases hc:(k == NameKind.free&&env.scope.kind == .function&&env.kindOf n == some .cell)<;>(simp only [jK,hx,if_true,jM,if_false];exact ih)
theorem rA (sc:Scope) (env:Env) (x:Str):(relabel sc env).names.lookup x=(sc.names.lookup x).map λk=>if (k == NameKind.free&&env.scope.kind == .function&&env.kindOf x == some .cell) then NameKind.cell else k:=DA
theorem vG (h:sc.names.lookup x=some .local):(relabel sc env).names.lookup x=some .local:=by
 rw [rA,h];rfl
theorem qNU (h:sc.names.lookup x=some .globalImplicit):(relabel sc env).names.lookup x=some .globalImplicit:=by
 rw [rA,h];rfl
theorem uO (h:sc.names.lookup x=some .free):(relabel sc env).names.lookup x=some .cell∨(relabel sc env).names.lookup x=some .free:=by
 rw [rA,h]
 simp only [mV]
 split
 ·exact .inl rfl
 ·exact .inr rfl
theorem qNV (hc:∀y∈sc.names,y.2≠.cell) (h:(relabel sc env).names.lookup x=some .cell∨(relabel sc env).names.lookup x=some .free):sc.names.lookup x=some .free:=by
 rw [rA] at h
 cases hx:sc.names.lookup x with
 | none=>rw [hx] at h;rcases h with h|h<;>cases h
 | some k =>
  rw [hx] at h
  simp only [mV,tm] at h
  cases k with
  | free=>rfl
  | cell=>exact Qn rfl (hc _ (gn hx))
  | _=>rcases h with h|h<;>(split at h<;>first|(cases h;done)|(rename_i q;exfalso;revert q;simp;done))
def lJ (X:Cx) (sc:Scope) (N:List Str) (C:Addr) (s:Shared) (H:Hp) (fp:List Addr):Cx where
 prog:=X.prog
 w:=X.w
 K:=X.K
 mg:=X.mg
 base:=X.base
 A:=X.A
 N:=N
 s₀:=s
 H₀:=H
 env:=compEnvC sc (fE X.env sc.names []) C X.env
 outer:=X.stack
 stack:=X.stack
 ex:=fp
 calm:=X.calm
 fn:=λ_=>false
 pn:=[]
 xe:=λ_ _=>False
section
variable {call:Nat->List D->Option R}{G:Gx}{k:Nat}{X:Cx}{sc sc':Scope}{N:List Str}
structure ScOk (sc:Scope):Prop where
 kind:sc.kind=.function
 cell:∀y∈sc.names,y.2≠.cell
 nd:(sc.names.map (·.1)).Nodup
 pl:∀x∈bB sc++bM sc,fN x=true
theorem qKB (h:rn sc=true):ScOk sc:=by
 unfold rn at h
 simp only [aY,beq_iff_eq,yaM,bne_iff_ne,ne_eq,decide_eq_true_eq] at h
 obtain⟨⟨⟨h1,h2⟩,h3⟩,h4⟩:=h
 exact⟨h1,h2,h3,h4⟩
theorem n5 {l:List (Str×NameKind)}(nd:(l.map (·.1)).Nodup) {x:Str}{k:NameKind}(h:(x,k)∈l):l.lookup x=some k:=by
 induction l with
 | nil=>cases h
 | cons p r ih =>
  obtain⟨n,k'⟩:=p
  simp only [gQ,yba] at nd
  rcases yag.mp h with e|e
  ·cases e
   simp [jK]
  ·have hne:(x == n)=false:=by
    rw [beq_eq_false_iff_ne]
    intro z
    subst z
    exact nd.1 (yaO.mpr ⟨_,e,rfl⟩)
   rw [jK,hne]
   exact ih nd.2 e
theorem own_mem:x∈bB sc↔(x,NameKind.local)∈sc.names/\x≠Qa ".0":=by
 unfold bB
 simp only [yaO,yaQ,aY,beq_iff_eq,bne_iff_ne,ne_eq]
 constructor
 ·rintro⟨⟨n,k⟩,⟨h1,h2,h3⟩,rfl⟩
  have h2:k=.local:=h2
  subst h2
  exact⟨h1,h3⟩
 ·rintro⟨h1,h2⟩
  exact⟨_,⟨h1,rfl,h2⟩,rfl⟩
theorem free_mem:x∈bM sc↔(x,NameKind.free)∈sc.names:=by
 unfold bM
 simp only [yaO,yaQ,beq_iff_eq]
 constructor
 ·rintro⟨⟨n,k⟩,⟨h1,h2⟩,rfl⟩
  have h2:k=.free:=h2
  subst h2
  exact h1
 ·intro h
  exact⟨_,⟨h,rfl⟩,rfl⟩
theorem uL (nd:(sc.names.map (·.1)).Nodup):((sc.names.filter p).map (·.1)).Nodup:=nd.sublist ((List.filter_sublist).map _)
theorem qKZ (S:ScOk sc):(bB sc++bM sc).Nodup:=by
 rw [List.nodup_append]
 refine⟨uL S.nd,uL S.nd,λx hx y hy e=>?_⟩
 subst e
 have h1:=n5 S.nd (own_mem.mp hx).1
 have h2:=n5 S.nd (free_mem.mp hy)
 rw [h1] at h2
 cases h2
end
end Dw
namespace Dw
open PySem PySem.Spec PyProof.Rows L2
section
variable {call:Nat->List D->Option R}{G:Gx}{k:Nat}{X:Cx}{sc sc':Scope}{N:List Str}
def qH (X:Cx) (sc':Scope):Prop:=∀x,(x,NameKind.free)∈sc'.names->X.env.kindOf x=some .cell∨X.env.kindOf x=some .free
theorem vH (ok:X.Ok) (h:qH X sc'):∀y∈sc'.names,y.2=.free->∃c,X.env.cells.lookup y.1=some c:=λy hy e=>by
 obtain⟨x,kk⟩:=y
 have e:kk=.free:=e
 subst e
 exact ok.has x (h x hy)
theorem qTV (I:Inv X pins Z H s) (S:ScOk sc') (T:qH X sc') (hf:∀b∈fp,dZ X pins H b) (hl:∀b∈fp,b<s.heap.objs.size) :
  (lJ X sc' N' s.heap.objs.size s H fp).Ok:=by
 have hc:=vH I.ok T
 refine⟨I.ok.mod,S.kind,I.ok.glob,I.ok.blt,aK _,λx y c h1 h2=>?_,λx h=>?_,λx c h=>?_,I.ok.hd,I.ok.frames,.inl rfl,λb hb=>⟨cD (hl b hb),λx c e=>?_⟩,I.bs,dR I.ok.bsz I.sz,λb o e hb=>?_,λb hb hs=>?_,I.stack,I.stkFree⟩
 ·exact I.ok.inj x y c (j2 hc h1) (j2 hc h2)
 ·have hx:=qNV S.cell h
  exact vm X.env _ _ x (.inl (gn hx))
 ·exact Qn h (by intro z;cases z)
 ·exact (hf b hb).2.2.2.2.1 x c (j2 hc e)
 ·rcases (hf b hb).2.2.2.1 with q|q
  ·exact I.ok.noex b o e q
  ·exact Qn (dy (Qi (I.ok.bs b o e).1) q) (fX _)
 ·rcases yag.mp (I.stkSub b hs) with e|e
  ·exact (hf b hb).2.1 e
  ·exact (hf b hb).2.2.1 e
theorem qLq (I:Inv X pins Z H s) (S:ScOk sc') (T:qH X sc') (hf:∀b∈fp,dZ X pins H b) (hl:∀b∈fp,b<s.heap.objs.size)
  (kp:∀b o,s.heap.get? b=some o->h'.get? b=some o) (hn:h'.Ns s.heap.objs.size m) (τ:L2.St) (hlen:τ.length=N'.length)
  (hv:∀(i:Nat) (x:Str) (v:V),N'[i]?=some x->τ[i]?=some (some v)->(x,NameKind.free)∈sc'.names/\∃j:Nat,X.N[j]?=some x/\Z[j]?=some (some v)) (hvis:∀x,(x,NameKind.free)∈sc'.names->mL X.env.scope x) :
  Inv (lJ X sc' N' s.heap.objs.size s H fp) (X.pn++pins) τ H { s with heap:=h',toks:=t' }:=by
 have hc:=vH I.ok T
 refine⟨qTV I S T hf hl,rfl,I.bare,Un.kept kp,⟨m,hn,λi x v e1 e2 e3=>?_⟩,λx c e=>?_,I.hok.fresh (aK _),λx c e=>I.freeC x c (j2 hc e),λp hp=>?_,I.hok.kept kp,hlen⟩
 ·obtain⟨hx,j,q1,q2⟩:=hv i x v e1 e2
  obtain⟨m0,hm0,hl0⟩:=I.loc
  obtain⟨u,r,l⟩:=hl0 j x v q1 q2 (hvis x hx)
  refine⟨u,r,.inr ⟨?_,?_⟩⟩
  ·exact uO (n5 S.nd hx)
  ·obtain⟨c,ec⟩:=vm X.env _ [] x (.inl hx)
   refine⟨c,ec,?_⟩
   have ec':=j2 hc ec
   rcases l with ⟨hk,_⟩|⟨hk,c',hc',hcell⟩
   ·rcases T x hx with z|z<;>(rw [hk] at z;cases z)
   ·rw [ec'] at hc'
    cases hc'
    obtain⟨o,ho,hd⟩:=hcell
    exact⟨o,kp c o ho,hd⟩
 ·obtain⟨v,o,ho,hd⟩:=I.cell x c (j2 hc e)
  exact⟨v,o,kp c o ho,hd⟩
 ·have hp':p∈X.pn++pins:=hp
  obtain⟨e,n,ne,nf,d⟩:=I.pin p hp'
  refine⟨kp _ _ e,n,cD (Qi e),λhs=>?_,d⟩
  rcases yag.mp (I.stkSub p.1 hs) with z|z
  ·exact ne z
  ·exact nf z
theorem qTU (g:XG call G k X sc N) (S:ScOk sc') {C:Addr}{s:Shared}{H:Hp}{fp:List Addr}:XG call G k (lJ X sc' (bB sc'++bM sc') C s H fp) sc' (bB sc'++bM sc'):=by
 refine⟨rfl,qKZ S,λx h=>?_,λx h=>?_,λx h=>?_,λx h=>?_,g.calm,rfl,g.room,λf i h=>?_,g.blt,g.cons,λu hu=>?_,g.two⟩
 ·unfold ly at h
  simp only [fC,beq_iff_eq] at h
  rcases h with (h|h)|h
  ·exact .inl (vG h)
  ·exact Qn rfl (S.cell _ (gn h))
  ·rcases uO (env:=X.env) h with q|q
   ·exact .inr (.inl q)
   ·exact .inr (.inr q)
 ·simp only [fC,beq_iff_eq] at h
  rcases h with h|h
  ·exact⟨.inl (vG h),.inr (vG h)⟩
  ·exact Qn rfl (S.cell _ (gn h))
 ·unfold bD at h
  rw [beq_iff_eq] at h
  exact qNU h
 ·unfold lh at h
  simp only [fC,beq_iff_eq] at h
  rcases h with h|h
  ·exact Qn rfl (S.cell _ (gn h))
  ·exact uO h
 ·obtain⟨a,fd,ps,h1,h2,h3,h4,h5⟩:=(g.defs f i h).ex
  exact⟨a,fd,ps,h1,h2,h3,h4,h5⟩
 ·exact⟨(g.meth u hu).ex⟩
end
end Dw
namespace Dw
open PySem PySem.Spec PyProof.Rows L2
section
variable {call:Nat->List D->Option R}{G:Gx}{k:Nat}{X:Cx}{sc sc':Scope}{N:List Str}
variable (X) in
def SndI (tg iter:Expr) (b:Bool) (src:En->Option (List D)):Prop:=∃wi:TI,PI X tg iter wi/\∀(Ge:Gp) (H:Hp) (F:Fz) (Z:En) (τ:L2.St) (its:List D) (Rr:It->Hp->Prop),src Z=some its->SR X.K Ge H F Z τ ->
 (∀J H' F',Gr H F H' F'->ItOk X.K J H' F' its->(b=true->its.length<=lim)->Rr J H')->wi τ H Rr
variable (X) in
def qu (tg iter:Expr) (b:Bool) (src:En->Option (List D)):Prop:=∃wi:TI,PI X tg iter wi/\∀(Ge:Gp) (H:Hp) (F:Fz) (Z:En) (τ:L2.St) (its:List D) (Rr:It->Hp->Prop),src Z=some its->SR X.K Ge H F Z τ ->
 (∀J H' F',Gr H F H' F'->qF X.K J H' F' its->(b=true->its.length<=lim)->Rr J H')->wi τ H Rr
theorem SndI.c (h:SndI X tg iter b src):qu X tg iter b src:=let ⟨wi,p,q⟩:=h;⟨wi,p,λGe H F Z τ its Rr e s k=>q Ge H F Z τ its Rr e s λJ H' F' g ok hl=>k J H' F' g ok.g hl⟩
def qVp (K:Qb) (tl:TE):TI:=fun Z H R=>tl Z H λx H1=>∃a xs,x=.ref a/\((SqL K H1 a xs/\(xs.length<=sizeLine->R (sd K a) H1))∨(SqT K H1 a xs/\(xs.length<=sizeLine->R (xS K a) H1)))
theorem An (hl:PE X l tl):PI X tg l (qVp X.K tl):=by
 intro pins s Z H R I h
 refine aF (hl pins s Z H _ I h) λv s1 ⟨x,H1,I1,r1,a,xs,e,q⟩=>?_
 subst e;cases r1
 have hf:∀b∈[s1.heap.objs.size],dZ X pins H1 b:=λb hb=>by
  have e:b=s1.heap.objs.size:=by simpa using hb
  subst e;exact I1.fpOk (aK _) (I1.hok.fresh (aK _))
 rcases q with ⟨hq,q⟩|⟨hq,q⟩
 ·obtain⟨its,rv,p,hz⟩:=I1.list hq
  exact wpAny_pyIter_list p.isList ⟨s1.heap.objs.size,[s1.heap.objs.size],_,_,H1,rfl,I1.kept (t':=s1.toks) λb o e=>Qg _ e,qHp a _,⟨_,Qh _ rfl,rfl,rfl⟩,hf,q hz⟩
 ·obtain⟨its,rv,p,hz⟩:=I1.tuple hq
  exact wpAny_pyIter_tuple (show s1.heap.IsTuple a its.toArray from p) ⟨s1.heap.objs.size,[s1.heap.objs.size],_,_,H1,rfl,I1.kept (t':=s1.toks) λb o e=>Qg _ e,qGI a _,⟨_,Qh _ rfl,rfl,rfl⟩,hf,q hz⟩
theorem qNw (h:SndE call X l c):SndI X tg l true (fun Z=>(aa call Z c).bind λx=>bR x.2):=by
 obtain⟨t,p,q⟩:=h
 refine⟨_,An p,λGe H F Z τ its Rr hs hr kk=>?_⟩
 obtain⟨r,e1,e2⟩:=ak hs
 refine q Ge H F Z τ r _ e1 hr λv H1 F1 g rr=>?_
 obtain⟨F2,g2,rd⟩:=rr.fz g
 obtain⟨b,d⟩:=r
 cases d with
 | lst ds =>
  cases e2
  obtain⟨a,vs,rfl,hl,hrd⟩:=rd
  exact⟨a,vs,rfl,.inl ⟨hl.sq,λz=>kk _ H1 F2 g2 (qOE hl hrd) λ_=>by rw [<-RDs.length hrd];exact z⟩⟩
 | tup ds =>
  cases e2
  obtain⟨a,vs,rfl,hl,hrd⟩:=rd
  exact⟨a,vs,rfl,.inr ⟨hl,λz=>kk _ H1 F2 g2 (Ab hl hrd) λ_=>by rw [<-RDs.length hrd];exact z⟩⟩
 | _=>cases e2
theorem qKo (h:dO call X l c):qu X tg l true (fun Z=>(pk Z c (aa call Z c)).bind bR):=by
 obtain⟨t,p,q⟩:=h
 refine⟨_,An p,λGe H F Z τ its Rr hs hr kk=>?_⟩
 obtain⟨d,e1,e2⟩:=ak hs
 refine q Ge H F Z τ d _ e1 hr λv H1 F1 g rx=>?_
 cases d with
 | lst ds =>
  cases e2
  obtain⟨a,vs,rfl,hl,hrd⟩:=rx.lst
  exact⟨a,vs,rfl,.inl ⟨hl,λz=>kk _ H1 F1 g (qRk hl hrd) λ_=>by rw [<-RDs.length hrd];exact z⟩⟩
 | tup ds =>
  cases e2
  obtain⟨a,vs,rfl,hl,hrd⟩:=rx.tup
  exact⟨a,vs,rfl,.inr ⟨hl,λz=>kk _ H1 F1 g (Ab hl hrd).g λ_=>by rw [<-RDs.length hrd];exact z⟩⟩
 | _=>cases e2
theorem qNI (hx:x=Qa "enumerate") (hg:Gl X x) (hm:X.mg x=none) (hn:[a].all di=true) (ha:SndE call X a ca) :
  SndI X (.Tuple es kk tp) (.Call (.Name x p) [a] [] pos) true (fun Z=>(aa call Z ca).bind λx=>(bR x.2).bind λxs=>some (ee 0 xs)):=by
 simp only [ft,kU,jJ] at hn
 have s1:starEach [a] X.env=[(false,eval a X.env)]:=cR hn
 obtain⟨ta,pa,qa⟩:=ha
 refine⟨_,qQu hx hg hm (fy pa gC s1) s1,λGe H F Z τ its Rr hs hr kk=>?_⟩
 obtain⟨r,e1,e2⟩:=ak hs
 obtain⟨xs,e5,e6⟩:=ak e2
 cases e6
 refine qa Ge H F Z τ r _ e1 hr λv H1 F1 g1 rr1=>?_
 obtain⟨F1',g1',rd1⟩:=rr1.fz g1
 obtain⟨b1,d1⟩:=r
 cases d1 with
 | lst ds1 =>
  cases e5
  obtain⟨p1,v1,rfl,h1,q1⟩:=rd1
  exact⟨true,p1,v1,rfl,LsR.sq h1,λz=>kk _ H1 F1' g1' (Aa (kd:=true) h1 q1) λ_=>by rw [vN,<-RDs.length q1];exact z⟩
 | tup ds1 =>
  cases e5
  obtain⟨p1,v1,rfl,h1,q1⟩:=rd1
  exact⟨false,p1,v1,rfl,h1,λz=>kk _ H1 F1' g1' (Aa (kd:=false) h1 q1) λ_=>by rw [vN,<-RDs.length q1];exact z⟩
 | _=>cases e5
theorem qNt (hx:x=Qa "zip") (hg:Gl X x) (hm:X.mg x=none) (hn:[a,b].all di=true) (ha:SndE call X a ca) (hb:SndE call X b cb) :
  SndI X (.Tuple es kk tp) (.Call (.Name x p) [a,b] [] pos) true (fun Z=>(aa call Z ca).bind λx=>(aa call Z cb).bind λy=>(bR x.2).bind λxs=>(fG y.2).bind λys=>some (cF xs ys)):=by
 simp only [ft,kU,jJ,aY] at hn
 have s2:starEach [b] X.env=[(false,eval b X.env)]:=cR hn.2
 have s1:starEach [a,b] X.env=[(false,eval a X.env),(false,eval b X.env)]:=(cR hn.1).trans (by rw [s2])
 obtain⟨ta,pa,qa⟩:=ha
 obtain⟨tb,pb,qb⟩:=hb
 refine⟨_,qQs hx hg hm (fy pa (fy pb gC s2) (cR hn.1)) s1 s2,λGe H F Z τ its Rr hs hr kk=>?_⟩
 obtain⟨r,e1,e2⟩:=ak hs
 obtain⟨r',e3,e4⟩:=ak e2
 obtain⟨xs,e5,e6⟩:=ak e4
 obtain⟨ys,e7,e8⟩:=ak e6
 cases e8
 refine qa Ge H F Z τ r _ e1 hr λv H1 F1 g1 rr1=>?_
 obtain⟨F1',g1',rd1⟩:=rr1.fz g1
 refine qb Ge H1 F1' Z τ r' _ e3 (hr.grow g1') λw H2 F2 g2 rr2=>?_
 obtain⟨F2',g2',rd2⟩:=rr2.fz g2
 have rd1':=RD.mono g2'.keep rd1
 obtain⟨b1,d1⟩:=r
 obtain⟨b2,d2⟩:=r'
 cases d1 with
 | lst ds1 =>
  cases d2 with
  | tup ds2 =>
   cases e5
   cases e7
   obtain⟨p1,v1,rfl,h1,q1⟩:=rd1'
   obtain⟨p2,v2,rfl,h2,q2⟩:=rd2
   exact⟨true,false,p1,p2,v1,v2,rfl,LsR.sq h1,h2,λz=>kk _ H2 F2' (g1'.trans g2') (qP (kd:=true) (ke:=false) h1 h2 q1 q2) λ_=>by
    have:=RDs.length q1
    unfold cF
    rw [m7,<-this]
    exact dR (pG _ _) z⟩
  | lst ds2 =>
   cases e5
   cases e7
   obtain⟨p1,v1,rfl,h1,q1⟩:=rd1'
   obtain⟨p2,v2,rfl,h2,q2⟩:=rd2
   exact⟨true,true,p1,p2,v1,v2,rfl,LsR.sq h1,LsR.sq h2,λz=>kk _ H2 F2' (g1'.trans g2') (qP (kd:=true) (ke:=true) h1 h2 q1 q2) λ_=>by
    have:=RDs.length q1
    unfold cF
    rw [m7,<-this]
    exact dR (pG _ _) z⟩
  | _=>cases e7
 | tup ds1 =>
  cases d2 with
  | tup ds2 =>
   cases e5
   cases e7
   obtain⟨p1,v1,rfl,h1,q1⟩:=rd1'
   obtain⟨p2,v2,rfl,h2,q2⟩:=rd2
   exact⟨false,false,p1,p2,v1,v2,rfl,h1,h2,λz=>kk _ H2 F2' (g1'.trans g2') (qP (kd:=false) (ke:=false) h1 h2 q1 q2) λ_=>by
    have:=RDs.length q1
    unfold cF
    rw [m7,<-this]
    exact dR (pG _ _) z⟩
  | lst ds2 =>
   cases e5
   cases e7
   obtain⟨p1,v1,rfl,h1,q1⟩:=rd1'
   obtain⟨p2,v2,rfl,h2,q2⟩:=rd2
   exact⟨false,true,p1,p2,v1,v2,rfl,h1,LsR.sq h2,λz=>kk _ H2 F2' (g1'.trans g2') (qP (kd:=false) (ke:=true) h1 h2 q1 q2) λ_=>by
    have:=RDs.length q1
    unfold cF
    rw [m7,<-this]
    exact dR (pG _ _) z⟩
  | _=>cases e7
 | _=>cases e5
theorem n4:∀{cs:List C}{Z:En}{ds:List D},bG call Z cs=some ds->ds.length=cs.length
 | [],_,_,h=>by cases h;rfl
 | c::cr,Z,ds,h=>by
  obtain⟨x,e1,e2⟩:=ak h
  obtain⟨xs,e3,e4⟩:=ak e2
  cases e4
  simp [n4 e3]
theorem qQg {ds its:List D}(e:d9 ds=some its) (h:ds.length=1):∃i,ds=[.int i]:=by
 match ds,h with
 | [a],_=>cases a<;>first|(cases e;done)|exact⟨_,rfl⟩
theorem qQf {ds its:List D}(e:d9 ds=some its) (h:ds.length=2):∃i j,ds=[.int i,.int j]:=by
 match ds,h with
 | [a,b],_=>cases a<;>first|(cases e;done)|(cases b<;>first|(cases e;done)|exact⟨_,_,rfl⟩)
theorem qQe {ds its:List D}(e:d9 ds=some its) (h:ds.length=3):∃i j k,ds=[.int i,.int j,.int k]:=by
 match ds,h with
 | [a,b,c],_=>cases a<;>first|(cases e;done)|(cases b<;>first|(cases e;done)|(cases c<;>first|(cases e;done)|exact⟨_,_,_,rfl⟩))
theorem qS4 {ds its:List D}(e:iA ds=some its) (h:ds.length=1):∃i,ds=[.int i]:=by
 match ds,h with
 | [a],_=>cases a<;>first|(cases e;done)|exact⟨_,rfl⟩
theorem qNx (hx:x=Qa "range") (hg:Gl X x) (hm:X.mg x=none) (hn:rs.all di=true) (hl:rs.length=1∨rs.length=2∨rs.length=3) (hcl:cs.length=rs.length) (h:iL call X rs cs) :
  SndI X tg (.Call (.Name x p) rs [] pos) false (fun Z=>(bG call Z cs).bind d9):=by
 subst hx
 obtain⟨t,pt,q⟩:=h
 match rs,hl,hn,hcl,pt with
 | [a],_,hn,hcl,pt =>
  simp only [ft,kU,jJ] at hn
  refine⟨_,qIh hg hm pt (cR hn),λGe H F Z τ its Rr hs hr kk=>?_⟩
  obtain⟨ds,e1,e2⟩:=ak hs
  have hlen:=n4 e1
  rw [hcl] at hlen
  refine q Ge H F Z τ ds _ e1 hr λvs H1 F1 g rr=>?_
  obtain⟨n,rfl⟩:=qQg e2 hlen
  obtain⟨hc,rfl⟩:=cA (show (if -(2^62)<=n/\n<2^62 then some ((List.range n.toNat).map λi=>D.int (i:Nat)) else none)=some its from e2)
  obtain⟨v,rfl,hv⟩:=RPs.one rr
  have e:(List.range n.toNat).map (λi:Nat=>D.int (i:Nat))=(List.range n.toNat).map λi:Nat=>D.int (0+(i:Nat)):=by simp
  exact⟨n,by rw [hv.int],hc.1,hc.2,kk _ H1 F1 g (by rw [e];exact qRl 0 n.toNat) λz=>nomatch z⟩
 | [a,b],_,hn,hcl,pt =>
  simp only [ft,kU,jJ,aY] at hn
  have s2:starEach [b] X.env=[(false,eval b X.env)]:=cR hn.2
  have s1:starEach [a,b] X.env=[(false,eval a X.env),(false,eval b X.env)]:=(cR hn.1).trans (by rw [s2])
  refine⟨_,qIf hg hm pt s1 s2,λGe H F Z τ its Rr hs hr kk=>?_⟩
  obtain⟨ds,e1,e2⟩:=ak hs
  have hlen:=n4 e1
  rw [hcl] at hlen
  refine q Ge H F Z τ ds _ e1 hr λvs H1 F1 g rr=>?_
  obtain⟨i,j,rfl⟩:=qQf e2 hlen
  cases e2
  obtain⟨v,w,rfl,hv,hw⟩:=RPs.two rr
  have e:(List.range (j - i).toNat).map (λk:Nat=>D.int (i+(k:Nat)))=(List.range (j - i).toNat).map λk:Nat=>D.int (i+(k:Nat) * 1):=by
   refine pA λk _=>?_
   rw [Int.mul_one]
  exact⟨i,j,by rw [hv.int,hw.int],kk _ H1 F1 g (by rw [e];exact u7 i 1 (j - i).toNat) λz=>nomatch z⟩
 | [a,b,c],_,hn,hcl,pt =>
  simp only [ft,kU,jJ,aY] at hn
  have s3:starEach [c] X.env=[(false,eval c X.env)]:=cR hn.2.2
  have s2:starEach [b,c] X.env=[(false,eval b X.env),(false,eval c X.env)]:=(cR hn.2.1).trans (by rw [s3])
  have s1:starEach [a,b,c] X.env=[(false,eval a X.env),(false,eval b X.env),(false,eval c X.env)]:=(cR hn.1).trans (by rw [s2])
  refine⟨_,qIg hg hm pt s1 s2,λGe H F Z τ its Rr hs hr kk=>?_⟩
  obtain⟨ds,e1,e2⟩:=ak hs
  have hlen:=n4 e1
  rw [hcl] at hlen
  refine q Ge H F Z τ ds _ e1 hr λvs H1 F1 g rr=>?_
  obtain⟨i,j,k,rfl⟩:=qQe e2 hlen
  obtain⟨hc,rfl⟩:=cA (show (if -(2^62)<=i/\i<2^62/\-(2^62)<=j/\j<2^62/\k≠0/\k.natAbs<2^30 then some ((List.range (eJ i j k).toNat).map λn=>D.int (i+(n:Nat) * k)) else none)=some its from e2)
  obtain⟨v,w,x,rfl,hv,hw,hx⟩:=RPs.three rr
  exact⟨i,j,k,by rw [hv.int,hw.int,hx.int],hc,kk _ H1 F1 g (u7 i k (eJ i j k).toNat) λz=>nomatch z⟩
theorem qNy (hx:x=Qa "reversed") (hy:y=Qa "range") (hg:Gl X x) (hm:X.mg x=none) (hg':Gl X y) (hm':X.mg y=none) (hn:rs.all di=true) (hl:rs.length=1) (hcl:cs.length=rs.length) (h:iL call X rs cs) :
  SndI X tg (.Call (.Name x p') [.Call (.Name y p) rs [] pos] [] pos') false (fun Z=>(bG call Z cs).bind iA):=by
 subst hx hy
 obtain⟨t,pt,q⟩:=h
 match rs,hl,hn,hcl,pt with
 | [a],_,hn,hcl,pt =>
  simp only [ft,kU,jJ] at hn
  refine⟨_,qQt hg' hm' hg hm pt (cR hn),λGe H F Z τ its Rr hs hr kk=>?_⟩
  obtain⟨ds,e1,e2⟩:=ak hs
  have hlen:=n4 e1
  rw [hcl] at hlen
  refine q Ge H F Z τ ds _ e1 hr λvs H1 F1 g rr=>?_
  obtain⟨n,rfl⟩:=qS4 e2 hlen
  obtain⟨hc,rfl⟩:=cA (show (if -(2^62)<=n/\n<2^62 then some ((List.range n.toNat).map λi=>D.int ((n.toNat:Int) - 1 - (i:Nat))) else none)=some its from e2)
  obtain⟨v,rfl,hv⟩:=RPs.one rr
  have e:(List.range n.toNat).map (λi:Nat=>D.int ((n.toNat:Int) - 1 - (i:Nat)))=(List.range n.toNat).map λi:Nat=>D.int (((n.toNat:Int) - 1)+(i:Nat) * (-1)):=by
   refine pA λi _=>?_
   rw [show ((n.toNat:Int) - 1)+(i:Nat) * (-1)=(n.toNat:Int) - 1 - (i:Nat) by omega]
  exact⟨n,by rw [hv.int],hc,kk _ H1 F1 g (by rw [e];exact u7 _ (-1) n.toNat) λz=>nomatch z⟩
end
end Dw
namespace Dw
open PySem PySem.Spec PyProof.Rows L2
section
variable {call:Nat->List D->Option R}{G:Gx}{k:Nat}{X:Cx}{sc sc':Scope}{N:List Str}
theorem oh:∀{l:List α}{ks:List β},eg f l=some ks->ks.length=l.length/\∀(i:Nat) (x:α),l[i]?=some x->∃j,ks[i]?=some j/\f x=some j
 | [],ks,h=>by cases h;exact⟨rfl,λi x e=>by simp at e⟩
 | a::r,ks,h=>by
  obtain⟨b,e1,e2⟩:=ak (show ((f a).bind λx=>(eg f r).bind λxs=>some (x::xs))=some ks from h)
  obtain⟨bs,e3,e4⟩:=ak e2
  cases e4
  obtain⟨h1,h2⟩:=oh e3
  refine⟨by simp [h1],λi x e=>?_⟩
  cases i with
  | zero=>simp at e;subst e;exact⟨b,rfl,e1⟩
  | succ i=>simp at e;obtain⟨j,q1,q2⟩:=h2 i x e;exact⟨j,by simpa using q1,q2⟩
theorem qM (h:jo sc N x=some j):lh sc x=true/\N[j]?=some x/\ly sc x=true:=by
 unfold jo at h
 split at h
 ·rename_i hc
  unfold df at h
  split at h
  ·rename_i hv
   rw [aY] at hv
   exact⟨hc,ig h,hv.1⟩
  ·cases h
 ·cases h
variable {ks:List Nat}
theorem qJ6 (g:XG call G k X sc N) (hk:eg (jo sc N) (bM sc')=some ks):qH X sc':=λx hx=>by
 obtain⟨i,hi⟩:=List.mem_iff_getElem?.mp (free_mem.mpr hx)
 obtain⟨j,e1,e2⟩:=(oh hk).2 i x hi
 exact g.cap x (qM e2).1
theorem qPr (g:XG call G k X sc N) (hk:eg (jo sc N) (bM sc')=some ks):∀x,(x,NameKind.free)∈sc'.names->mL X.env.scope x:=λx hx=>by
 obtain⟨i,hi⟩:=List.mem_iff_getElem?.mp (free_mem.mpr hx)
 obtain⟨j,e1,e2⟩:=(oh hk).2 i x hi
 exact g.vis x (qM e2).2.2
noncomputable def gZ (τ:L2.St) (nl:Nat) (ks:List Nat):L2.St:=List.replicate nl none++ks.map λj=>(τ[j]?).join
theorem qJ4 (τ:L2.St) (nl:Nat):(gZ τ nl ks).length=nl+ks.length:=by simp [gZ]
theorem qJ5 (h:(gZ τ nl ks)[i]?=some (some v)):∃m j,i=nl+m/\ks[m]?=some j/\τ[j]?=some (some v):=by
 unfold gZ at h
 by_cases hi:i<nl
 ·rw [m8 (by simpa using hi),k6] at h
  split at h<;>cases h
 ·rw [k7 (by simpa using hi),gk] at h
  simp only [sF] at h
  cases q:ks[i - nl]? with
  | none=>rw [q] at h;cases h
  | some j =>
   rw [q] at h
   refine⟨i - nl,j,by omega,q,?_⟩
   simp only [mV,tm] at h
   cases q2:τ[j]? with
   | none=>rw [q2] at h;cases h
   | some o=>rw [q2] at h;simpa using h
theorem lP (h1:ks[m]?=some j) (h2:τ[j]?=some (some v)):(gZ τ nl ks)[nl+m]?=some (some v):=by
 unfold gZ
 rw [k7 (by simp),gk]
 simp [h1,h2]
theorem ko (h:ax (bF Z nl ks) i=some r):∃m j,i=nl+m/\ks[m]?=some j/\ax Z j=some r:=by
 unfold ax bF at h
 by_cases hi:i<nl
 ·rw [m8 (by simpa using hi),k6] at h
  split at h<;>cases h
 ·rw [k7 (by simpa using hi),gk] at h
  simp only [sF] at h
  cases q:ks[i - nl]? with
  | none=>rw [q] at h;cases h
  | some j =>
   rw [q] at h
   exact⟨i - nl,j,by omega,q,by simpa using h⟩
theorem qQ9 (S:ScOk sc') (hk:eg (jo sc N) (bM sc')=some ks) {m m' j:Nat}(h1:ks[m]?=some j) (h2:ks[m']?=some j):m=m':=by
 obtain⟨hl,hg⟩:=oh hk
 have get:∀{m:Nat},ks[m]?=some j->∃x,(bM sc')[m]?=some x/\N[j]?=some x:=λ{m} h=>by
  obtain⟨q,_⟩:=yal.mp h
  have hx:(bM sc')[m]?=some (bM sc')[m]:=cV (by omega)
  obtain⟨j',e1,e2⟩:=hg m _ hx
  rw [h] at e1
  cases e1
  exact⟨_,hx,(qM e2).2.1⟩
 obtain⟨x,a1,a2⟩:=get h1
 obtain⟨y,b1,b2⟩:=get h2
 rw [a2] at b2
 cases b2
 exact vB (uL S.nd) a1 b1
theorem qKm (S:ScOk sc') (hk:eg (jo sc N) (bM sc')=some ks) {K:Qb}{Ge:Gp}{H:Hp}{F:Fz}{Z:En}{τ:L2.St}(nl:Nat) (s:SR K Ge H F Z τ):SR K ⟨Ge.h,none⟩ H F (bF Z nl ks) (gZ τ nl ks):=by
 refine⟨by simp [bF,gZ],s.ent,s.dom,λi d e=>?_,λi d e hd=>?_,λi i' d e h1 h2 h3=>?_,λi m ks' e=>?_,λp d hp=>nomatch hp⟩
 ·obtain⟨m,j,rfl,h1,h2⟩:=ko e
  obtain⟨v,q1,q2⟩:=s.val j d h2
  exact⟨v,lP h1 q1,q2⟩
 ·obtain⟨m,j,rfl,h1,h2⟩:=ko e
  obtain⟨a,ds,vs,q1,q2,q3⟩:=s.own j d h2 hd
  exact⟨a,ds,vs,q1,lP h1 q2,q3⟩
 ·obtain⟨m,j,rfl,a1,a2⟩:=ko h1
  obtain⟨m',j',rfl,b1,b2⟩:=ko h2
  obtain⟨a,u,q2,_⟩:=s.addr a2
  obtain⟨a',u',p2,_⟩:=s.addr b2
  rw [lP a1 q2,lP b1 p2] at h3
  have:j=j':=s.sep j j' d e a2 b2 (by rw [q2,p2,fU h3])
  subst this
  rw [qQ9 S hk a1 b1]
 ·obtain⟨m',j,rfl,h1,h2⟩:=ko e
  obtain⟨a,q1,q2⟩:=s.dct j m ks' h2
  exact⟨a,lP h1 q1,q2⟩
theorem qPB (S:ScOk sc') (h:eX sc' (bB sc'++bM sc') tg=some t) (Z:En):∀i,(t=.one i∨∃j,t=.two i j∨t=.two j i)->ax (bF Z (bB sc').length ks) i=none:=by
 have one:∀{x:Str} {i:Nat},(sc'.names.lookup x == some .local||sc'.names.lookup x == some .cell)=true->cz (bB sc'++bM sc') x=some i->ax (bF Z (bB sc').length ks) i=none:=λ{x i} hx hi=>by
  cases q:ax (bF Z (bB sc').length ks) i with
  | none=>rfl
  | some r =>
   obtain⟨m,j,rfl,h1,h2⟩:=ko q
   have hs:=ig hi
   rw [k7 (by omega)] at hs
   have hm:=free_mem.mp (pB hs)
   have:=n5 S.nd hm
   rw [this] at hx
   simp at hx
 unfold eX at h
 split at h
 ·rename_i x pos
  split at h
  ·rename_i hx
   cases hi:cz (bB sc'++bM sc') x with
   | none=>rw [hi] at h;cases h
   | some i =>
    rw [hi] at h
    cases h
    intro i' z
    rcases z with z|⟨j,z|z⟩<;>cases z
    exact one hx hi
  ·cases h
 ·rename_i x p y p' kk pos
  split at h
  ·rename_i hx
   rw [aY,aY] at hx
   obtain⟨⟨hx,hy⟩,hne⟩:=hx
   cases hi:cz (bB sc'++bM sc') x with
   | none=>rw [hi] at h;cases h
   | some i =>
    cases hj:cz (bB sc'++bM sc') y with
    | none=>rw [hi,hj] at h;cases h
    | some j =>
     rw [hi,hj] at h
     cases h
     intro i' z
     rcases z with z|⟨j',z|z⟩<;>cases z
     ·exact one hx hi
     ·exact one hy hj
  ·cases h
 ·cases h
end
end Dw
namespace Dw
open PySem PySem.Spec PyProof.Rows L2
section
variable {call:Nat->List D->Option R}{G:Gx}{k:Nat}{X:Cx}{sc sc':Scope}{N:List Str}{ks:List Nat}
structure Off (X:Cx) (pins:List (Addr×Obj)) (H:Hp) (C:Addr) (h:Heap):Prop where
 n:H C=none
 ne:C≠X.env.locals
 ab:X.s₀.heap.objs.size<=C
 cl:∀x c,X.env.cells.lookup x=some c->c≠C
 pn:∀p∈X.pn++pins,p.1≠C
 ns:∃m,h.Ns C m
theorem Off.let {s:Shared}{C:Addr}{h':Heap}(o:Off X pins H C s.heap) (I:Inv X pins τ H s) (hs:Heap.SameBut C s.heap h'):Inv X pins τ H { s with heap:=h' }:=
 I.turned (t':=s.toks) (λb ob hb e=>hs.extBut b ob hb e) o.n o.ne (.inr o.ab) o.cl o.pn
theorem qJ2 {K:Qb}{Ge:Gp}{H:Hp}{F:Fz}{Z Z':En}{τ:L2.St}{t:Tg}{d:D}{v:V}(hm:∀is,t≠.many is) (s:SR K Ge H F Z τ) (hb:de Z t d=some Z') (hv:RD K H F d v)
  (hn:∀i,(t=.one i∨∃j,t=.two i j∨t=.two j i)->ax Z i=none):oB K t v τ H fun τ' H'=>H'=H/\SR K Ge H F Z' τ'/\SR K Ge H F Z τ'/\∀j,ax Z j≠none->τ'[j]?=τ[j]?:=by
 cases t with
 | one i =>
  cases hb
  have n1:=hn i (.inl rfl)
  exact⟨rfl,s.bind hv,s.skip n1,λj hj=>cM λz:i=j=>hj (by rw [<-z];exact n1)⟩
 | two i j =>
  unfold de at hb
  split at hb
  ·rename_i heq;cases heq
  ·rename_i i' j' x y heq
   cases heq
   cases hb
   obtain⟨a,vs,rfl,hs,hr⟩:=hv
   obtain⟨v1,r,rfl,h1,w,r2,e2,h2,h3⟩:=hr
   have h3:r2=[]:=h3
   subst h3
   subst e2
   have n1:=hn i (.inr ⟨j,.inl rfl⟩)
   have n2:=hn j (.inr ⟨i,.inr rfl⟩)
   exact⟨a,[v1,w],rfl,hs,rfl,v1,[w],rfl,w,[],rfl,rfl,rfl,(s.bind h1).bind h2,(s.skip n1).skip n2,λq hq=>by
    rw [cM λz:j=q=>hq (by rw [<-z];exact n2),cM λz:i=q=>hq (by rw [<-z];exact n1)]⟩
  ·rename_i heq;cases heq
  ·cases hb
 | many is=>exact Qn rfl (hm is)
noncomputable def oz (oc:Option (Expr×C)):List Expr:=oc.elim [] λp=>[p.1]
variable (call) in
def yX (oc:Option (Expr×C)) (Z:En):Option R:=oc.elim (some (false,.bl true)) λp=>aa call Z p.2
variable (call) in
def jR (oc:Option (Expr×C)) (e:C) (Z:En) (tg:Tg) (its:List D):Option (List D):=oc.elim (cL call e Z tg its) λp=>jA call p.2 e Z tg its
theorem qLm {oc:Option (Expr×C)}{e:C}{Z:En}{tg:Tg}:jR call oc e Z tg []=some []:=by cases oc<;>rfl
theorem qI3 {oc:Option (Expr×C)}{e:C}{Z:En}{tg:Tg}{x:D}{r:List D}:jR call oc e Z tg (x::r)=(de Z tg x).bind fun Z1=>(yX call oc Z1).bind (tT ((aa call Z1 e).bind λy=>(jR call oc e Z tg r).bind λys=>some (y.2::ys)) (jR call oc e Z tg r)):=by cases oc<;>rfl
def rX (prog:Program) (w:World) (A:Around) (env:Env) (oc:Option (Expr×C)) (P:Bool->Shared->Prop) (E:Value->Shared->Prop) (s:Shared):Prop:=oc.elim (P true s) λp=>wpAny (model prog w) A (isTrue p.1 env (eval p.1 env)) P E s
theorem qPA {oc:Option (Expr×C)}{pn:List (Addr×Obj)}{τ:L2.St}{H:Hp}{s:Shared}{Ge:Gp}{F:Fz}{Z:En}{x b:Bool}{P:Bool->Shared->Prop}{E:Value->Shared->Prop}(I:Inv X pn τ H s) (sn:∀p,oc=some p->dS call X p.1 p.2) (h:yX call oc Z=some (x,.bl b)) (r:SR X.K Ge H F Z τ) (ex:X.xe=λ_ _=>False)
  (f:∀s' H' F',Inv X pn τ H' s'->Gr H F H' F'->P b s'):rX X.prog X.w X.A X.env oc P E s:=by
 cases oc with
 | none=>cases h;exact f s H F I (.refl r.dom)
 | some p =>
  obtain⟨tt,pt,qt⟩:=sn p rfl
  have q:=pt pn s τ H (λc H'=>∃F',Gr H F H' F'/\c=b) I (qt Ge H F Z τ x b _ h r λH' F' g=>⟨F',g,rfl⟩)
  rw [ex] at q
  exact Qe q (λc s' ⟨H',I',F',g,e⟩=>e▸f s' H' F' I' g) λ_ _ z=>z.elim
theorem qLc {prog:Program}{w:World}{A:Around}{elt tg iter:Expr}{oc:Option (Expr×C)}{sc:Scope}{pos:Pos}{it acc:Value}{env:Env}{s:Shared}{Rs:Result->Shared->Prop}(J:Nat->Shared->Prop) {E:Value->Shared->Prop}(hE:E=notedBy (model prog w) A env λe s'=>Rs (.error e) s')
  (turn:∀n s,J n s->wpAny (model prog w) A (pyNext it) (λr s1=>match r with
   | none=>Rs (.ok .next) s1
   | some v=>wpAny (model prog w) A (letOwnedTupleGo tg it v) (λ_ s0=>wpAny (model prog w) A (assign tg env v) (λ_ s2=>rX prog w A env oc (λok s3=>if ok=true then wpAny (model prog w) A (eval elt env) (λx s4=>wpAny (model prog w) A (PySem.call (.builtin "list.append") [acc,x]) (λ_ s5=>∃m,m<n/\J m s5) E s4) E s3 else ∃m,m<n/\J m s3) E s2) E s0) E s1) E s)
  (n:Nat) (h:J n s):codeAny (model prog w) A (.compLoop (.ListComp elt [⟨tg,iter,oz oc,0⟩] sc pos) 0 it acc env) Rs s:=by
 subst hE
 cases oc with
 | none=>exact PySem.W.kcp_loop J turn n h
 | some p=>exact PySem.W.kct_loop J turn n h
structure CoW (call:Nat->List D->Option R) (G:Gx) (k:Nat) (X:Cx) (sc sc':Scope) (N:List Str) (elt tg iter:Expr) (oc:Option (Expr×C)) (t:Tg) (ks:List Nat) (ce:C) (b:Bool) (src:En->Option (List D)):Prop where
 S:ScOk sc'
 ht:eX sc' (bB sc'++bM sc') tg=some t
 hk:eg (jo sc N) (bM sc')=some ks
 he:∀X':Cx,XG call G k X' sc' (bB sc'++bM sc')->SndE call X' elt ce
 hcn:∀p,oc=some p->∀X':Cx,XG call G k X' sc' (bB sc'++bM sc')->dS call X' p.1 p.2
 hi:qu X tg iter b src
 hf:∀x,foldedSetIterable iter X.env x=pure x
inductive CoI (call:Nat->List D->Option R) (G:Gx) (k:Nat) (X:Cx) (sc sc':Scope) (N:List Str) (elt:Expr) (gens:List Comprehension) (c:C):Prop
 | mk (tg iter:Expr) (oc:Option (Expr×C)) (t:Tg) (ks:List Nat) (ce:C) (b:Bool) (src:En->Option (List D)) (e:gens=[⟨tg,iter,oz oc,0⟩]) (w:CoW call G k X sc sc' N elt tg iter oc t ks ce b src)
   (hc:∀Z r,aa call Z c=some r->∃its ys,src Z=some its/\jR call oc ce (bF Z (bB sc').length ks) t its=some ys/\r=(true,.lst ys)/\((b=true->its.length<=lim)->its.length<=lim)) (nv:∀i,c≠.v i)
inductive LI (call:Nat->List D->Option R) (X X':Cx) (pins:List (Addr×Obj)) (tn:Nat->Heap->Prop) (fp:List Addr) (H2:Hp) (F2:Fz) (Da:Addr) (its ys:List D) (oc:Option (Expr×C)) (ce:C) (t:Tg) (Z:En) (Gh:Hp) (n:Nat) (s:Shared):Prop
 | mk (i:Nat) (τ:L2.St) (H:Hp) (F:Fz) (zs:List V) (y1 y2:List D) (I:Inv X' (X.pn++pins) τ H s) (st:tn i s.heap) (fr:∀c∈fp,H c=none) (gr:Gr H2 F2 H F) (hd:H Da=some (.lst zs)) (nf:¬F Da) (rd:RDs X.K H F y1 zs) (hi:i<=its.length) (hn:n=its.length - i) (he:jR call oc ce Z t (its.drop i)=some y2) (hy:ys=y1++y2) (hz:zs.length<=i) (sr:SR X.K ⟨Gh,none⟩ H F Z τ)
  (nD:∀j d a,ax Z j=some (true,d)->τ[j]?=some (some (.ref a))->a≠Da)
theorem Ce (g:XG call G k X sc N) {elt tg iter:Expr}{oc:Option (Expr×C)}{t:Tg}{ce:C}{b:Bool}{src:En->Option (List D)}{pos p':Pos}(w:CoW call G k X sc sc' N elt tg iter oc t ks ce b src)
  (I:Inv X pins τ H s) (hS:SR X.K Ge H F Z τ) (hsrc:src Z=some its) (hev:jR call oc ce (bF Z (bB sc').length ks) t its=some ys) (hlen:(b=true->its.length<=lim)->its.length<=lim)
  (hend:∀(D C:Addr) (H':Hp) (F':Fz) (s':Shared),Gr H F H' F'->RR X.K H H' F' (true,.lst ys) (.ref D)->Inv X pins τ H' s'->Off X pins H' C s'.heap->compPost (model X.prog X.w) X.A X.xe use Qv (.ref D) C (.ok .next) s') :
  wpAny (model X.prog X.w) X.A (comprehension (.ListComp elt [⟨tg,iter,oz oc,0⟩] sc' pos) sc' X.env p' (newList []) false (eval iter X.env) use) Qv X.xe s:=by
 obtain⟨S,ht,hk,he,hcn,hi,hfs⟩:=w
 have T:=qJ6 g hk
 have hcl:=vH I.ok T
 refine wpAny_comprehension_free (use:=use) rfl hfs (qO1 sc' X.env hcl) S.kind (λx hx e=>by obtain⟨n,kk⟩:=x;have e:kk=.local:=e;subst e;exact n5 S.nd hx) ?_
 obtain⟨wi,pi,qi⟩:=hi
 refine aF (pi pins s τ H (λJ H'=>∃F',Gr H F H' F'/\qF X.K J H' F' its/\its.length<=lim) I (qi Ge H F Z τ its _ hsrc hS λJ H' F' g1 ok hl=>⟨F',g1,ok,hlen hl⟩)) λv s1 h1=>aF h1 λitv s2 h2=>?_
 obtain⟨it,fp,tn,J,H2,rfl,I2,Tn,st2,f2,F2,g2,vP,hl2⟩:=h2
 refine wpAny_newObj_type (wpAny_newFunctionEnv S.cell (by intro y hy;simp at hy) (λh3 hns hsb=>?_) S.kind)
 dsimp only at hns hsb ⊢
 have hD:H2 s2.heap.objs.size=none:=I2.hok.fresh (aK _)
 generalize hDe:s2.heap.objs.size=Da at hns hsb hD ⊢
 have hD0:H Da=none:=g2.same.free hD
 have lt2:∀{c:Addr} {o:Obj},s2.heap.get? c=some o->c<Da:=λe=>by rw [<-hDe];exact Qi e
 have I3:Inv X pins τ (aA H2 Da (.lst [])) { s2 with heap:=s2.heap.push { cls:=.type "list",dict:=none,data:=.seq ([]:List Value).toArray } }:=by
  subst hDe
  exact I2.laid (t':=s2.toks) (λc u e=>Qg _ e) (aK _) ⟨fq _,[],0,.nil,Qh _ rfl⟩
 generalize hHp:s2.heap.push { cls:=.type "list",dict:=none,data:=.seq ([]:List Value).toArray }=hp at hns hsb I3 ⊢
 have hCs:hp.objs.size=Da+1:=by rw [<-hHp,Heap.size_push,hDe]
 have kp:∀c o,hp.get? c=some o->h3.get? c=some o:=λc o e=>hsb.extBut c o (cD (Qi e)) (Qg _ e)
 have lfp:∀c∈fp,c<Da:=λc hc=>by obtain⟨o,e,_⟩:=Tn.obj _ _ st2 c hc;exact lt2 e
 have f3:∀c∈fp,dZ X pins (aA H2 Da (.lst [])) c:=λc hc=>⟨by rw [aX (cD (lfp c hc))];exact (f2 c hc).1,(f2 c hc).2⟩
 have lf3:∀c∈fp,c<({ s2 with heap:=hp }:Shared).heap.objs.size:=λc hc=>by show c<hp.objs.size;rw [hCs];exact Nat.lt_succ_of_lt (lfp c hc)
 obtain⟨kl,kg⟩:=oh hk
 have I4:Inv (lJ X sc' (bB sc'++bM sc') hp.objs.size { s2 with heap:=hp } (aA H2 Da (.lst [])) fp) (X.pn++pins) (gZ τ (bB sc').length ks) (aA H2 Da (.lst [])) { s2 with heap:=h3,toks:=s2.toks+([]:List (Str×Value)).length }:=by
  refine qLq (N':=bB sc'++bM sc') I3 S T f3 lf3 kp hns _ (by rw [qJ4,i8,kl]) (λi x v e1 e2=>?_) (qPr g hk)
  obtain⟨m,j,rfl,q1,q2⟩:=qJ5 e2
  rw [k7 (by omega)] at e1
  have e1':(bM sc')[m]?=some x:=by rw [<-e1];congr 1;omega
  obtain⟨j',r1,r2⟩:=kg m x e1'
  rw [q1] at r1
  cases r1
  exact⟨free_mem.mp (pB e1'),j,by rw [g.hN];exact (qM r2).2.1,q2⟩
 have g':XG call G k (lJ X sc' (bB sc'++bM sc') hp.objs.size { s2 with heap:=hp } (aA H2 Da (.lst [])) fp) sc' (bB sc'++bM sc'):=qTU g S
 have se:=he _ g'
 have sn:=λp e=>hcn p e _ g'
 have pg:=AX g' ht
 have tow:=qPB (ks:=ks) S ht Z
 generalize hX':lJ X sc' (bB sc'++bM sc') hp.objs.size { s2 with heap:=hp } (aA H2 Da (.lst [])) fp=X' at I4 g' se sn pg
 have eP:X'.prog=X.prog:=by rw [<-hX'];rfl
 have ew:X'.w=X.w:=by rw [<-hX'];rfl
 have eK:X'.K=X.K:=by rw [<-hX'];rfl
 have eA:X'.A=X.A:=by rw [<-hX'];rfl
 have eE:X'.env=compEnvC sc' (fE X.env sc'.names []) hp.objs.size X.env:=by rw [<-hX'];rfl
 have ex:X'.xe=λ_ _=>False:=g'.xe
 have fpX:∀{H':Hp},(∀c∈fp,H' c=none)->∀c∈fp,dZ X' (X.pn++pins) H' c:=λ{H'} hn c hc=>by
  obtain⟨a0,a1,a2,a3,a4,a5⟩:=f3 c hc
  rw [<-hX']
  refine⟨hn c hc,cD (lf3 c hc),λhs=>?_,.inl hc,λx cc e=>a4 x cc (j2 hcl e),λp hp=>a5 p hp⟩
  rcases yag.mp (I3.stkSub c hs) with z|z
  ·exact a1 z
  ·exact a2 z
 have loop:codeAny (model X.prog X.w) X.A (.compLoop (.ListComp elt [⟨tg,iter,oz oc,0⟩] sc' pos) 0 (.ref it) (.ref Da) (compEnvC sc' (fE X.env sc'.names []) hp.objs.size X.env)) (compPost (model X.prog X.w) X.A X.xe use Qv (.ref Da) hp.objs.size) { s2 with heap:=h3,toks:=s2.toks+([]:List (Str×Value)).length }:=by
  refine qLc (LI call X X' pins tn fp H2 F2 Da its ys oc ce t (bF Z (bB sc').length ks) Ge.h) rfl ?_ its.length ?_
  ·rintro n s' ⟨i,τ',H',F',zs,y1,y2,I',st',fr',gr',hd',nf',rd',hi,rfl,hev',hyy,hzl,sr',nD'⟩
   have hx':∀{α:Type} {tr:Sem α} {Q1:α->Shared->Prop} {E1:Value->Shared->Prop} {s0:Shared},wpAny (model X'.prog X'.w) X'.A tr Q1 X'.xe s0->wpAny (model X.prog X.w) X.A tr Q1 E1 s0:=λ{α tr Q1 E1 s0} h=>by
    rw [eP,ew,eA,ex] at h
    exact Qe h (λ_ _ z=>z) λ_ _ z=>z.elim
   have kd:Keep H2 F2 H' F':=gr'.keep
   obtain⟨okI,okS⟩:=vP H' F' gr'
   by_cases hlt:i<its.length
   ·have hdi:its[i]?=some its[i]:=cV hlt
    obtain⟨go,yl⟩:=okI i _ hdi
    have hdr:its.drop i=its[i]::its.drop (i+1):=sL hlt
    rw [hdr,qI3] at hev'
    obtain⟨Z1,b1,hev'⟩:=ak hev'
    obtain⟨⟨x0,d0⟩,b0,hev'⟩:=ak hev'
    have ti:=Tn.item X' eP ew eK g'.calm i (X.pn++pins) s' τ' H' (notedBy (model X.prog X.w) X.A (compEnvC sc' (fE X.env sc'.names []) hp.objs.size X.env) λe s'=>compPost (model X.prog X.w) X.A X.xe use Qv (.ref Da) hp.objs.size (.error e) s') I' (fpX fr') st' go
    rw [eA] at ti
    refine aF ti λr s4 ⟨u,hr,h4⟩=>?_
    subst hr
    refine aF h4 λ_ s5 ⟨x,H5,I5,r5,y5,st5,fr5⟩=>?_
    obtain⟨F5,g5,rd5⟩:=yl x H5 y5
    have I5':=I5.pinned (fpX fr5) (Tn.obj _ _ st5)
    have sr5:=sr'.grow g5
    rw [<-eE]
    have a6:=pg _ s5 τ' H5 x u (fun τ6 H6=>H6=H5/\SR X.K ⟨Ge.h,none⟩ H5 F5 Z1 τ6/\SR X.K ⟨Ge.h,none⟩ H5 F5 (bF Z (bB sc').length ks) τ6/\∀j,ax (bF Z (bB sc').length ks) j≠none->τ6[j]?=τ'[j]?) I5' r5 (by
     rw [eK]
     exact qJ2 (qMX ht) sr5 b1 rd5 tow)
    refine hx' (aF a6 λ_ s6 ⟨τ6,H6,I6,e6,sr6,sc6,sm6⟩=>?_)
    subst e6
    obtain⟨b00,rfl⟩:∃b00,d0=.bl b00:=by cases d0<;>first|exact⟨_,rfl⟩|cases hev'
    have tx:∀{P:Bool->Shared->Prop} {E:Value->Shared->Prop},rX X'.prog X'.w X'.A X'.env oc P E s6->rX X.prog X.w X.A X'.env oc P E s6:=by rw [eP,ew,eA];exact λh=>h
    refine tx (qPA I6 sn b0 (by rw [eK];exact sr6) g'.xe λs6b H6b F6b I6b g6b=>?_)
    have hd6:H6b Da=some (.lst zs):=g6b.same _ _ (g5.same _ _ hd')
    have g56:Gr H' F' H6b F6b:=g5.trans g6b
    have nf6:¬F6b Da:=λz=>by
     rcases g56.new Da z with q|q
     ·exact nf' q
     ·rw [hd'] at q;cases q
    cases b00 with
    | false =>
     rw [Qm (by decide)]
     refine⟨its.length - (i+1),by omega,i+1,τ6,H6b,F6b,zs,y1,y2,I6b.unpinned,?_,?_,gr'.trans g56,hd6,nf6,RDs.mono g56.keep rd',hlt,rfl,hev',hyy,by omega,sc6.grow g6b,λj d a h1 h2=>?_⟩
     ·exact Tn.keep _ _ _ st5 λc hc o e=>(I6b.pin (c,o) (fk _ (fk _ (mi hc e)))).1
     ·intro c hc
      obtain⟨o,e,d⟩:=Tn.obj _ _ st5 c hc
      exact (I6b.pin (c,o) (fk _ (fk _ (mi hc e)))).2.1
     ·exact nD' j d a h1 (by rw [<-sm6 j (by rw [h1];simp)];exact h2)
    | true =>
    rw [Ql rfl]
    obtain⟨y,b2,hev'⟩:=ak hev'
    obtain⟨ys',b3,hev'⟩:=ak hev'
    have hys:y2=y.2::ys':=(fU hev').symm
    replace sr6:=sr6.grow g6b
    replace sc6:=sc6.grow g6b
    replace I6:=I6b
    replace hd':=hd6
    replace g5:=g56
    clear hd6 g56
    obtain⟨te,pe,qe⟩:=se
    have a7:=pe _ s6b τ6 H6b (λv H7=>∃F7,Gr H6b F6b H7 F7/\RR X.K H6b H7 F7 y v) I6 (qe ⟨Ge.h,none⟩ H6b F6b Z1 τ6 y _ b2 (by rw [eK];exact sr6) λv H7 F7 g7 rr=>⟨F7,g7,by rw [<-eK];exact rr⟩)
    refine hx' (aF a7 λvv s7 ⟨v,H7,I7,r7,F7,g7,rr7⟩=>?_)
    obtain⟨F8,g8,rd8⟩:=rr7.fz g7
    have hd7:H7 Da=some (.lst zs):=g7.same _ _ hd'
    have nf8:¬F8 Da:=λz=>by
     rcases g8.new Da z with q|q
     ·exact nf6 q
     ·rw [hd'] at q;cases q
    have a8:=CZ (X:=X') _ s7 τ6 H7 (.ref Da) [v] (.ref Da) [vv] (λ_ H9=>H9=aA H7 Da (.lst (zs++[v]))) I7 rfl (.cons r7 .nil) ⟨Da,zs,v,rfl,rfl,hd7,dy (by omega) hl2,rfl⟩
    refine hx' (aF a8 λ_ s9 ⟨_,H9,I9,_,e9⟩=>?_)
    subst e9
    have k8:Keep H7 F8 (aA H7 Da (.lst (zs++[v]))) F8:=⟨λp xs h=>by
     have ne:p≠Da:=λz=>by
      subst z
      rcases h with h|⟨o,h⟩<;>(rw [hd7] at h;cases h)
     rcases h with h|⟨o,h⟩
     ·exact .inl (by rw [aX ne];exact h)
     ·exact .inr ⟨o,by rw [aX ne];exact h⟩,λp xs f h=>by
     have ne:p≠Da:=λz=>by subst z;exact nf8 f
     refine⟨f,?_⟩
     rcases h with h|⟨o,h⟩
     ·exact .inl (by rw [aX ne];exact h)
     ·exact .inr ⟨o,by rw [aX ne];exact h⟩,λp C dx fs h=>by rw [aX (λz=>by subst z;rw [hd7] at h;cases h)];exact h⟩
    have g58:Gr H' F' H7 F8:=g5.trans g8
    have gall:Gr H2 F2 (aA H7 Da (.lst (zs++[v]))) F8:=by
     have gg:=gr'.trans g58
     refine⟨λc o e=>?_,gg.sub,gg.new,λc e=>?_⟩
     ·rw [aX (fx e hD)];exact gg.same c o e
     ·by_cases z:c=Da
      ·subst z;rw [ef] at e;cases e
      ·rw [aX z] at e;exact gg.dom c e
    refine⟨its.length - (i+1),by omega,i+1,τ6,aA H7 Da (.lst (zs++[v])),F8,zs++[v],y1++[y.2],ys',I9.unpinned,?_,?_,gall,ef,nf8,?_,hlt,rfl,b3,(by rw [hyy,hys,mY];rfl),(by simp;omega),?_,λj d a h1 h2=>?_⟩
    ·exact Tn.keep _ _ _ st5 λc hc o e=>(I9.pin (c,o) (fk _ (fk _ (mi hc e)))).1
    ·intro c hc
     obtain⟨o,e,d⟩:=Tn.obj _ _ st5 c hc
     exact (I9.pin (c,o) (fk _ (fk _ (mi hc e)))).2.1
    ·exact RDs.append (RDs.mono (g58.keep.trans k8) rd') ⟨v,[],rfl,RD.mono k8 rd8,rfl⟩
    ·have sc8:=sc6.grow g8
     refine sc8.keep k8 ?_ gall.dom (λj d hj hd=>?_) (λj m ks' hj=>?_) (λp d hp=>nomatch hp)
     ·intro c o e
      have h7:=sc8.ent c o e
      have:c≠Da:=λz=>by
       subst z
       have:=hS.ent c o e
       rw [hD0] at this
       cases this
      rw [aX this];exact h7
     ·obtain⟨a,ds,vs,q1,q2,q3,q4,q5,q6⟩:=sc8.own j d hj hd
      have ne:a≠Da:=nD' j d a hj (by rw [<-sm6 j (by rw [hj];simp)];exact q2)
      exact⟨a,ds,vs,q1,q2,q3,q4,by rw [aX ne];exact q5,RDs.mono k8 q6⟩
     ·obtain⟨a,q1,q2,q3,q4⟩:=sc8.dct j m ks' hj
      have ne:a≠Da:=nD' j _ a hj (by rw [<-sm6 j (by rw [hj];simp)];exact q1)
      exact⟨a,q1,q2,by rw [aX ne];exact q3,q4⟩
    ·exact nD' j d a h1 (by rw [<-sm6 j (by rw [h1];simp)];exact h2)
   ·have hin:i=its.length:=by omega
    subst hin
    have td:=Tn.done X' eP ew eK g'.calm its.length (X.pn++pins) s' τ' H' (notedBy (model X.prog X.w) X.A (compEnvC sc' (fE X.env sc'.names []) hp.objs.size X.env) λe s'=>compPost (model X.prog X.w) X.A X.xe use Qv (.ref Da) hp.objs.size (.error e) s') I' (fpX fr') st' okS
    rw [eA] at td
    refine aF td λr s4 ⟨hr,I4'⟩=>?_
    subst hr
    rw [List.drop_of_length_le (aK _),qLm] at hev'
    have hyl:y2=[]:=(fU hev').symm
    subst hyl
    rw [i7] at hyy
    subst hyy
    have Ib:=I4'.base
    rw [<-hX'] at Ib
    have Io:Inv X pins τ H' s4:=by
     refine I3.call' (ch:=fp) (by have:=I4'.os;rw [<-hX'] at this;exact this) Ib (by have:=I4'.hok;rw [eP,ew] at this;exact this) I4'.bare λc hc=>?_
     obtain⟨a0,a1,a2,a3,a4,a5⟩:=f3 c hc
     exact⟨a3,a1,a4,a5⟩
    refine hend Da hp.objs.size H' F' s4 (g2.trans gr') ⟨Da,ys,zs,rfl,rfl,hD0,nf',hd',rd'⟩ Io ⟨?_,iv I3.lt,I3.sz,λx c e=>?_,λp hp=>?_,?_⟩
    ·have:=I4'.free
     rw [eE] at this
     exact this
    ·obtain⟨v,q⟩:=I3.cell x c e
     exact cD q.lt
    ·exact cD (Qi (I3.pin p hp).1)
    ·obtain⟨m,hm,_⟩:=I4'.loc
     rw [eE] at hm
     exact⟨m,hm⟩
  ·refine⟨0,gZ τ (bB sc').length ks,aA H2 Da (.lst []),F2,[],[],ys,I4,?_,λc hc=>(f3 c hc).1,Gr.laid g2.dom hD,ef,g2.dom Da hD,rfl,fq _,rfl,by simpa using hev,rfl,aK _,?_,λj d a h1 h2=>?_⟩
   ·exact Tn.keep _ _ _ st2 λc hc o e=>kp c o (by rw [<-hHp];exact Qg _ e)
   ·exact qKm S hk _ (hS.grow (g2.trans (Gr.laid g2.dom hD)))
   ·obtain⟨m,j',rfl,q1,q2⟩:=ko h1
    obtain⟨a',u',p2,_,p5⟩:=hS.addr q2
    rw [lP q1 p2] at h2
    cases h2
    exact fx p5 hD0
 exact codeAny_compStart_list loop (Tn.self _ 0 _ _ _ (Tn.keep _ _ _ st2 λc hc o e=>kp c o (by rw [<-hHp];exact Qg _ e)) loop)
end
end Dw
namespace Dw
open PySem PySem.Spec PyProof.Rows L2
section
variable {call:Nat->List D->Option R}{G:Gx}{k:Nat}{X:Cx}{sc sc':Scope}{N:List Str}{ks:List Nat}
theorem qKv (g:XG call G k X sc N) {elt:Expr}{gens:List Comprehension}{c:C}{pos:Pos}(q:CoI call G k X sc sc' N elt gens c):SndE call X (.ListComp elt gens sc' pos) c:=by
 obtain⟨tg,iter,oc,t,ks,ce,b,src,rfl,w,hc,nv⟩:=q
 refine⟨fun τ H Q=>∃Ge F Z r,aa call Z c=some r/\SR X.K Ge H F Z τ/\∀v H' F',Gr H F H' F'->RR X.K H H' F' r v->Q v H',λpins s τ H Q I ⟨Ge,F,Z,r,h1,h2,h3⟩=>?_,λGe H F Z τ r Q h1 h2 h3=>⟨Ge,F,Z,r,h1,h2,h3⟩⟩
 obtain⟨its,ys,e1,e2,rfl,e4⟩:=hc Z r h1
 rw [eval_ListComp]
 refine Ce g w (use:=none) I h2 e1 e2 e4 λDa C H' F' s' gr rr I' o=>?_
 obtain⟨m,hm⟩:=o.ns
 exact⟨m,hm,λh' hs=>⟨.ref Da,H',o.let I' hs,rfl,h3 _ H' F' gr rr⟩⟩
theorem qLE (g:XG call G k X sc N) {elt:Expr}{gens:List Comprehension}{c:C}{pos py spos:Pos}{x:Str}{i:Nat}(q:CoI call G k X sc sc' N elt gens c)
  (hx:(sc.names.lookup x == some .local||sc.names.lookup x == some .cell)=true) (hsl:cz N x=some i) (hsw:swapsWith (.ListComp elt gens sc' pos) (some (.Name x py)) spos.line X.env=pure true) :
  PS X (.Assign [.Name x py] (.ListComp elt gens sc' pos) spos) (λDn τ H=>∃Ge F Z r,aa call Z c=some r/\SR X.K Ge H F Z τ/\∀v H' F',Gr H F H' F'->RR X.K H H' F' r v->Dn.nx (τ.set i (some v)) H'):=by
 obtain⟨tg,iter,oc,t,ks,ce,b,src,rfl,w,hc,nv⟩:=q
 intro pins s τ H Dn I ⟨Ge,F,Z,r,h1,h2,h3⟩
 obtain⟨its,ys,e1,e2,rfl,e4⟩:=hc Z r h1
 rw [exec_Assign_Name_used _ _ _ _ hsw]
 refine Qc (wpAny_standAt (Qc ?_))
 obtain⟨l1,l2⟩:=j8 g hx
 refine Qc (Ce g (p':=firstIterPos [⟨tg,iter,oz oc,0⟩] pos) w (use:=some (assign (.Name x py) X.env)) I h2 e1 e2 e4 λDa C H' F' s' gr rr I' o=>?_)
 have q:=h3 _ H' F' gr rr
 refine wpAny_assign_Name (Dd (v:=.ref Da) I' (by rw [g.hN];exact g.nd) (by rw [g.hN];exact ig hsl) l1 rfl (λs2 I2 hch=>?_) l2)
 obtain⟨m,hm⟩:=o.ns
 obtain⟨a,hsb,ha⟩:=hch
 have hCa:C≠a:=by
  rcases ha with e|e
  ·rw [e];exact o.ne
  ·exact (o.cl _ _ e).symm
 have o2:Off X pins H' C s2.heap:=⟨o.n,o.ne,o.ab,o.cl,o.pn,⟨m,hm.sameBut hsb hCa⟩⟩
 exact⟨m,hm.sameBut hsb hCa,λh' hs=>Qd (Qd ⟨_,H',o2.let I2 hs,q⟩)⟩
theorem p0 {n:Nat}{e:Expr}{c:C}(h:cE G n sc N e=some c):qX e/\di e=true/\(∀env x,foldedSetIterable e env x=pure x)/\∀op,behindInMarks op e=false:=by
 cases n with
 | zero=>cases h
 | succ n=>cases e<;>first|exact⟨λo i=>rfl,rfl,λ_ _=>rfl,λ_=>rfl⟩|(cases h;done)|(cases n<;>cases h)
theorem qKJ {n:Nat}{e:Expr}{c:C}(h:cE G n sc N e=some c):qX e:=(p0 h).1
theorem gH {n:Nat}{e:Expr}{c:C}(h:cE G n sc N e=some c):di e=true:=(p0 h).2.1
theorem uM {n:Nat}{e:Expr}{c:C}(h:cE G n sc N e=some c) (env:Env):∀x,foldedSetIterable e env x=pure x:=(p0 h).2.2.1 env
theorem qOr {n:Nat}{e:Expr}{c:C}(h:cE G n sc N e=some c):∀op,behindInMarks op e=false:=(p0 h).2.2.2
theorem qLd {op:CmpOp}{b:Expr}{q:Bool×Const}(h:pT op b=some q):∃j p,b=.Constant q.2 j p/\op=if q.1 then .IsNot else .Is:=by
 cases b with
 | Constant c j p=>cases op<;>cases h<;>exact⟨j,p,rfl,rfl⟩
 | _=>cases h
theorem qKz {b:Expr}{q:Option Expr×Option Expr}(h:qd b=some q):∃p,b=.Slice q.1 q.2 none p:=by
 cases b with
 | Slice lo hi st p=>cases st<;>cases h;exact⟨p,rfl⟩
 | _=>cases h
noncomputable def DX:C->Bool
 | .v _=>true
 | _=>false
theorem fP {c:C}(h:DX c=false) (i:Nat):c≠.v i:=by rintro rfl;cases h
structure Ok (call:Nat->List D->Option R) (X:Cx) (e:Expr) (c:C):Prop where
 he:SndE call X e c
 hp:dO call X e c
 ht:dS call X e c
 hg:qG call X e c
 nv:(∃x p,e=.Name x p)∨∀i,c≠.v i
theorem Ok.of (h:SndE call X e c) (ht:dS call X e c) (hc:∀i,c≠.v i):Ok call X e c:=⟨h,h.look hc,ht,h.lend hc,.inr hc⟩
theorem fO {e:Expr}{c:C}(h:SndE call X e c) (t:∀whole,isTrue e X.env whole=(do let v <-whole;standAt e.pos;holding [v] (truthy v))) (hc:DX c=false):Ok call X e c:=.of h (h.test t) (fP hc)
structure AllE (call:Nat->List D->Option R) (G:Gx) (k n:Nat):Prop where
 e:∀(X:Cx) (sc:Scope) (N:List Str) (e:Expr) (c:C),XG call G k X sc N->cE G n sc N e=some c->Ok call X e c
 f:∀(X:Cx) (sc:Scope) (N:List Str) (f:Str) (es:List Expr) (c:C) (p pos:Pos),XG call G k X sc N->bD sc f=true->fN f=true->qC G n sc N f es=some c->SndE call X (.Call (.Name f p) es [] pos) c/\∀i,c≠.v i
 a:∀(X:Cx) (sc:Scope) (N:List Str) (es:List Expr) (cs:List C),XG call G k X sc N->eU G n sc N es=some cs->iF call X es cs/\iL call X es cs/\es.all di=true/\cs.length=es.length
 o:∀(X:Cx) (sc:Scope) (N:List Str) (e:Option Expr) (c:Option C),XG call G k X sc N->cO G n sc N e=some c->nc call X e c
 x:∀(X:Cx) (sc:Scope) (N:List Str) (e:Expr) (c:C),XG call G k X sc N->cX G n sc N e=some c->Ok call X e c/\∀i,c≠.v i
 ga:∀(X:Cx) (sc:Scope) (N:List Str) (es:List Expr) (cs:List C),XG call G k X sc N->eU G n sc N es=some cs->nq call X es cs
 w:∀(X:Cx) (sc:Scope) (N:List Str) (es:List Expr) (c:C),XG call G k X sc N->jU G n sc N es=some c->SndW call X .And es c
 v:∀(X:Cx) (sc:Scope) (N:List Str) (es:List Expr) (c:C),XG call G k X sc N->kJ G n sc N es=some c->SndW call X .Or es c
theorem qLH:AllE call G k 0:=by
 constructor
 ·intro X sc N e c _ h;cases h
 ·intro X sc N f es c p pos _ _ _ h;cases h
 ·intro X sc N e c _ h;cases h
 ·intro X sc N e c _ h;cases h
 ·intro X sc N e c _ h;cases h
 ·intro X sc N e c _ h;cases h
 ·intro X sc N e c _ h;cases h
 ·intro X sc N e c _ h;cases h
inductive Srk (sc:Scope):Expr->Sr->Prop where
 | seq (e:Expr):Srk sc e (.seq e)
 | rng (x:Str) (p:Pos) (as:List Expr) (pos:Pos):bD sc x=true->x=Qa "range"->(as.length=1∨as.length=2∨as.length=3)->Srk sc (.Call (.Name x p) as [] pos) (.rng as)
 | zip (x:Str) (p:Pos) (a b:Expr) (pos:Pos):bD sc x=true->x=Qa "zip"->Srk sc (.Call (.Name x p) [a,b] [] pos) (.zip a b)
 | enm (x:Str) (p:Pos) (a:Expr) (pos:Pos):bD sc x=true->x=Qa "enumerate"->Srk sc (.Call (.Name x p) [a] [] pos) (.enm a)
 | rev (x y:Str) (p p2:Pos) (a:Expr) (pos pos2:Pos):bD sc x=true->x=Qa "reversed"->bD sc y=true->y=Qa "range"->Srk sc (.Call (.Name x p) [.Call (.Name y p2) [a] [] pos2] [] pos) (.rev [a])
theorem yx (it:Expr):Srk sc it (jV sc it):=by
 unfold jV
 split
 ·rename_i f p as pos
  split
  ·rename_i h
   simp only [aY,fC,beq_iff_eq,or_assoc] at h
   exact .rng f p as pos h.1.1 h.1.2 h.2
  ·split
   ·rename_i h
    simp only [aY,beq_iff_eq] at h
    split
    ·exact .zip f p _ _ pos h.1 h.2
    ·exact .seq _
   ·split
    ·rename_i h
     simp only [aY,beq_iff_eq] at h
     split
     ·split
      ·rename_i h'
       simp only [aY,beq_iff_eq] at h'
       exact .rev f _ p _ _ pos _ h.1 h.2 h'.1 h'.2
      ·exact .seq _
     ·exact .seq _
    ·split
     ·rename_i h
      simp only [aY,beq_iff_eq] at h
      split
      ·exact .enm f p _ pos h.1 h.2
      ·exact .seq _
     ·exact .seq _
 ·exact .seq _
theorem nZ (g:XG call G k X sc N) (hG:∀x∈du,G.defs.lookup x=none) (h:x=Qa s) (hs:s∈["len","abs","min","max","sum","all","tuple","list","int","bool","str","isinstance","range","zip","reversed","sorted","enumerate","any"]):X.mg x=none:=g.blt x (hG x (fM h hs)) (fM h hs)
theorem B1 (A:AllE call G k n) (g:XG call G k X sc N) (h:cE G n sc N it=some x):SndI X tg it true (fun Z=>(aa call Z x).bind λr=>bR r.2):=qNw (A.e X sc N it x g h).he
theorem qKl (A:AllE call G k n) (g:XG call G k X sc N) (h:cE G n sc N it=some x):qu X tg it true (fun Z=>(pk Z x (aa call Z x)).bind bR):=qKo (A.e X sc N it x g h).hp
theorem BZ (A:AllE call G k n) (g:XG call G k X sc N) (hG:∀x∈du,G.defs.lookup x=none) (hg:bD sc f=true) (hf:f=Qa "range") (hl:as.length=1∨as.length=2∨as.length=3) (h:eU G n sc N as=some xs) :
  SndI X tg (.Call (.Name f p) as [] pos) false (fun Z=>(bG call Z xs).bind d9):=by
 obtain⟨_,a2,a3,a4⟩:=A.a X sc N as xs g h
 exact qNx hf (g.gl f hg) (nZ g hG hf (by decide)) a3 hl a4 a2
theorem B2 (A:AllE call G k n) (g:XG call G k X sc N) (hG:∀x∈du,G.defs.lookup x=none) (hg:bD sc f=true) (hf:f=Qa "zip") (ha:cE G n sc N a=some x) (hb:cE G n sc N b=some y) :
  SndI X (.Tuple es kk tp) (.Call (.Name f p) [a,b] [] pos) true (fun Z=>(aa call Z x).bind λx=>(aa call Z y).bind λy=>(bR x.2).bind λxs=>(fG y.2).bind λys=>some (cF xs ys)):=
 qNt hf (g.gl f hg) (nZ g hG hf (by decide)) (by simp [gH ha,gH hb]) (A.e X sc N a x g ha).he (A.e X sc N b y g hb).he
theorem qNq (A:AllE call G k n) (g:XG call G k X sc N) (hG:∀x∈du,G.defs.lookup x=none) (hg:bD sc f=true) (hf:f=Qa "enumerate") (ha:cE G n sc N a=some x) :
  SndI X (.Tuple es kk tp) (.Call (.Name f p) [a] [] pos) true (fun Z=>(aa call Z x).bind λx=>(bR x.2).bind λxs=>some (ee 0 xs)):=
 qNI hf (g.gl f hg) (nZ g hG hf (by decide)) (by simp [gH ha]) (A.e X sc N a x g ha).he
theorem qNp (A:AllE call G k n) (g:XG call G k X sc N) (hG:∀x∈du,G.defs.lookup x=none) (hg:bD sc f=true) (hf:f=Qa "reversed") (hg':bD sc f'=true) (hf':f'=Qa "range") (h:eU G n sc N [a]=some xs) :
  SndI X tg (.Call (.Name f p) [.Call (.Name f' p') [a] [] pos'] [] pos) false (fun Z=>(bG call Z xs).bind iA):=by
 obtain⟨_,a2,a3,a4⟩:=A.a X sc N [a] xs g h
 exact qNy hf hf' (g.gl f hg) (nZ g hG hf (by decide)) (g.gl f' hg') (nZ g hG hf' (by decide)) a3 rfl a4 a2
theorem uR (h:eX sc N tg=some t) (h2:nC t=true):∃es kk tp,tg=.Tuple es kk tp:=by
 unfold eX at h
 split at h
 ·split at h
  ·rename_i x _ _
   cases hs:cz N x with
   | none=>rw [hs] at h;cases h
   | some i=>rw [hs] at h;cases h;cases h2
  ·cases h
 ·exact⟨_,_,_,rfl⟩
 ·cases h
theorem qO5 (h:cE G n sc N (.Name x p)=some (.v i)):df sc N x=some i:=by
 cases n with
 | zero=>cases h
 | succ n =>
  have h:(match df sc N x with|some i=>some (C.v i)|none=>kK G sc x)=some (.v i):=h
  cases hv:df sc N x with
  | some j=>rw [hv] at h;cases h;rfl
  | none =>
   rw [hv] at h
   have h:kK G sc x=some (.v i):=h
   unfold kK at h
   split at h
   ·cases hc:G.cons.lookup x<;>(rw [hc] at h;cases h)
   ·cases h
theorem qMT (g:XG call G k X sc N):X.A.units+20<cLine:=by
 have:=g.room.units
 omega
theorem qSc (hl:2<=es.length) (h:jU G n sc N es=some c):∀i,c≠.v i:=by
 cases n with
 | zero=>cases h
 | succ n =>
  unfold jU at h
  split at h
  ·simp at hl
  ·obtain⟨x,e1,e2⟩:=ak h
   obtain⟨y,e3,e4⟩:=ak e2
   cases e4
   exact λi z=>nomatch z
  ·cases h
theorem qTl (hl:2<=es.length) (h:kJ G n sc N es=some c):∀i,c≠.v i:=by
 cases n with
 | zero=>cases h
 | succ n =>
  unfold kJ at h
  split at h
  ·simp at hl
  ·obtain⟨x,e1,e2⟩:=ak h
   obtain⟨y,e3,e4⟩:=ak e2
   cases e4
   exact λi z=>nomatch z
  ·cases h
variable {n:Nat}{elt:Expr}{gens:List Comprehension}{c:C}{pos:Pos} in
theorem Cd (hG:∀x∈du,G.defs.lookup x=none) (A:AllE call G k n) (g:XG call G k X sc N) (h:cX G (n+1) sc N (.ListComp elt gens sc' pos)=some c):CoI call G k X sc sc' N elt gens c:=by
 obtain⟨tg,it,fs,rfl⟩:∃tg it fs,gens=[⟨tg,it,fs,0⟩]:=by
  cases gens with
  | nil=>cases h
  | cons a r =>
   obtain⟨tg,it,fs,k⟩:=a
   cases r with
   | cons b r=>cases k with
    | negSucc k=>cases h
    | ofNat k=>cases k<;>cases h
   | nil =>
    cases k with
    | negSucc k=>cases h
    | ofNat k =>
     cases k with
     | succ k=>cases h
     | zero=>exact⟨tg,it,fs,rfl⟩
 replace h:=(show (if rn sc' then _ else none)=some c from h)
 split at h
 ·rename_i hsc
  have S:=qKB hsc
  obtain⟨t,e1,e2⟩:=ak h
  obtain⟨ks,e3,e4⟩:=ak e2
  obtain⟨ce,e5,e6⟩:=ak e4
  have he:∀X':Cx,XG call G k X' sc' (bB sc'++bM sc')->SndE call X' elt ce:=λX' g'=>(A.e X' sc' _ elt ce g' e5).he
  have hsr:=yx (sc:=sc) it
  generalize jV sc it=q at e6 hsr
  obtain _|⟨cd,_|⟨_,_⟩⟩:=fs
  ·simp only at e6
   cases q with
   | seq s =>
    obtain⟨x,q1,q2⟩:=ak e6
    cases q2
    cases hsr
    refine⟨tg,it,none,t,ks,ce,true,_,rfl,⟨S,e1,e3,he,nofun,qKl A g q1,uM q1 X.env⟩,fun Z r hr=>?_,nofun⟩
    obtain⟨y,r1,r2⟩:=ak hr
    obtain⟨its,r3,r4⟩:=ak r2
    obtain⟨ys,r5,r6⟩:=ak r4
    cases r6
    exact⟨its,ys,by simp only [r1];exact r3,r5,rfl,λz=>z rfl⟩
   | rng rs =>
    obtain⟨xs,q1,q2⟩:=ak e6
    cases q2
    cases hsr with
    | rng f p as pos2 hg hf hl =>
     refine⟨tg,_,none,t,ks,ce,false,_,rfl,⟨S,e1,e3,he,nofun,(BZ (p:=p) (pos:=pos2) A g hG hg hf hl q1).c,λ_=>rfl⟩,fun Z r hr=>?_,nofun⟩
     obtain⟨y,r1,r2⟩:=ak hr
     obtain⟨its,r3,r4⟩:=ak r2
     split at r4
     ·rename_i hle
      obtain⟨ys,r5,r6⟩:=ak r4
      cases r6
      exact⟨its,ys,by simp only [r1];exact r3,r5,rfl,λ_=>hle⟩
     ·cases r4
   | zip a b =>
    simp only at e6
    split at e6
    ·rename_i h2
     obtain⟨x,q1,q2⟩:=ak e6
     obtain⟨y,q3,q4⟩:=ak q2
     cases q4
     obtain⟨es,kk,tp,rfl⟩:=uR e1 h2
     cases hsr with
     | zip f p a b pos2 hg hf =>
      refine⟨_,_,none,t,ks,ce,true,_,rfl,⟨S,e1,e3,he,nofun,(B2 (p:=p) (pos:=pos2) A g hG hg hf q1 q3).c,λ_=>rfl⟩,fun Z r hr=>?_,nofun⟩
      obtain⟨z,r1,r2⟩:=ak hr
      obtain⟨z2,r3,r4⟩:=ak r2
      obtain⟨xs,r5,r6⟩:=ak r4
      obtain⟨ys,r7,r8⟩:=ak r6
      obtain⟨zs,r9,r10⟩:=ak r8
      cases r10
      exact⟨cF xs ys,zs,by simp only [r1,r3,r5,r7,fj],r9,rfl,λz=>z rfl⟩
    ·cases e6
   | rev rs=>cases e6
   | enm a =>
    simp only at e6
    split at e6
    ·rename_i h2
     obtain⟨x,q1,q2⟩:=ak e6
     cases q2
     obtain⟨es,kk,tp,rfl⟩:=uR e1 h2
     cases hsr with
     | enm f p a pos2 hg hf =>
      refine⟨_,_,none,t,ks,ce,true,_,rfl,⟨S,e1,e3,he,nofun,(qNq (p:=p) (pos:=pos2) A g hG hg hf q1).c,λ_=>rfl⟩,fun Z r hr=>?_,nofun⟩
      obtain⟨z,r1,r2⟩:=ak hr
      obtain⟨xs,r5,r6⟩:=ak r2
      obtain⟨zs,r9,r10⟩:=ak r6
      cases r10
      exact⟨ee 0 xs,zs,by simp only [r1,r5,fj],r9,rfl,λz=>z rfl⟩
    ·cases e6
  ·obtain⟨cc,e7,e8⟩:=ak e6
   cases q with
   | seq s =>
    obtain⟨x,q1,q2⟩:=ak e8
    cases q2
    cases hsr
    refine⟨tg,it,some (cd,cc),t,ks,ce,true,_,rfl,⟨S,e1,e3,he,λp z X' g'=>by cases z;exact (A.e X' sc' _ cd cc g' e7).ht,(B1 A g q1).c,uM q1 X.env⟩,fun Z r hr=>?_,nofun⟩
    obtain⟨y,r1,r2⟩:=ak hr
    obtain⟨its,r3,r4⟩:=ak r2
    obtain⟨ys,r5,r6⟩:=ak r4
    cases r6
    exact⟨its,ys,by simp only [r1];exact r3,r5,rfl,λz=>z rfl⟩
   | _=>cases e8
  ·cases e6
 ·cases h
theorem qLI (hG:∀x∈du,G.defs.lookup x=none) (A:AllE call G k n):AllE call G k (n+1):=by
 constructor
 ·intro X sc N e c g h
  have E:∀{e c},cE G n sc N e=some c->Ok call X e c:=λh=>A.e X sc N _ _ g h
  have gx:cX G n sc N e=some c->Ok call X e c:=λh=>(A.x X sc N _ c g h).1
  cases e with
  | Name x pos =>
   replace h:=(show (match df sc N x with|some i=>some (C.v i)|none=>kK G sc x)=some c from h)
   cases hv:df sc N x with
   | none =>
    rw [hv] at h
    obtain⟨h1,h2⟩:=qP7 (call:=call) (pos:=pos) g h
    exact .of h1 (h1.test λ_=>rfl) h2
   | some i =>
    rw [hv] at h
    cases h
    obtain⟨h1,h2,h3⟩:=qKr (call:=call) (pos:=pos) g hv
    exact⟨h1,h2,h1.test λ_=>rfl,h3,.inl ⟨_,_,rfl⟩⟩
  | Constant cc j pos =>
   obtain⟨d,hv,rfl⟩:=yae.mp h
   exact fO (C5 hv) (λ_=>rfl) rfl
  | BinOp a op b pos =>
   obtain⟨o,e1,e2⟩:=ak h
   obtain⟨x,e3,e4⟩:=ak e2
   obtain⟨y,e5,e6⟩:=ak e4
   cases e6
   exact fO (qNK (qQI e1) (E e3).hp (E e5).hp) (λ_=>rfl) rfl
  | UnaryOp op a pos =>
   cases op with
   | USub =>
    obtain⟨x,hx,rfl⟩:=yae.mp h
    exact fO (qNC (E hx).hp) (λ_=>rfl) rfl
   | Not =>
    obtain⟨x,hx,rfl⟩:=yae.mp h
    obtain⟨h1,h2⟩:=qNA (pos:=pos) (E hx).he (E hx).ht
    exact .of h1 h2 (fP rfl)
   | _=>exact gx h
  | BoolOp op es pos =>
   cases op with
   | And =>
    replace h:=(show (if 2<=es.length then jU G n sc N es else none)=some c from h)
    split at h
    ·rename_i hl
     have h0:=A.w X sc N es c g h
     exact .of (h0 pos).1 h0.test (qSc hl h)
    ·cases h
   | Or =>
    replace h:=(show (if 2<=es.length then kJ G n sc N es else none)=some c from h)
    split at h
    ·rename_i hl
     have h0:=A.v X sc N es c g h
     exact .of (h0 pos).1 h0.test (qTl hl h)
    ·cases h
  | Compare a ops bs pos =>
   obtain _|⟨op,_|⟨_,_⟩⟩:=ops
   ·exact gx h
   ·obtain _|⟨b,_|⟨_,_⟩⟩:=bs
    ·exact gx h
    ·replace h:=(show (pT op b).elim _ _=some c from h)
     cases hi:pT op b with
     | some q =>
      rw [hi] at h
      obtain⟨j,p2,rfl,ho⟩:=qLd hi
      obtain⟨d,e1,e2⟩:=ak h
      obtain⟨x,e3,e4⟩:=ak e2
      cases e4
      obtain⟨h1,h2⟩:=qP5 (pos:=pos) (pos':=p2) (j:=j) q.1 ho e1 (E e3).hp
      exact .of h1 h2 (fP rfl)
     | none =>
      rw [hi] at h
      obtain⟨o,e1,e2⟩:=ak h
      obtain⟨x,e3,e4⟩:=ak e2
      obtain⟨y,e5,e6⟩:=ak e4
      cases e6
      obtain⟨h1,h2⟩:=qNJ (call:=call) (pos:=pos) (qOZ (X:=X) (qMT g) e1) (qOr e5 op) (λ_ _ _ hz=>qRJ hz) (E e3).hp (E e5).hp
      exact .of h1 h2 (fP rfl)
    ·exact gx h
   ·exact gx h
  | Subscript a b pos =>
   replace h:=(show (qd b).elim _ _=some c from h)
   cases hi:qd b with
   | some q =>
    rw [hi] at h
    obtain⟨p2,rfl⟩:=qKz hi
    obtain⟨x,e1,e2⟩:=ak h
    obtain⟨l,e3,e4⟩:=ak e2
    obtain⟨u,e5,e6⟩:=ak e4
    cases e6
    exact fO (qP0 (E e1).hp (A.o X sc N _ l g e3) (A.o X sc N _ u g e5)) (λ_=>rfl) rfl
   | none =>
    rw [hi] at h
    obtain⟨x,e1,e2⟩:=ak h
    obtain⟨y,e3,e4⟩:=ak e2
    cases e4
    exact fO (qP4 (qKJ e3) (E e1).hp (E e3).hp) (λ_=>rfl) rfl
  | Tuple es kk pos =>
   obtain⟨xs,hx,rfl⟩:=yae.mp h
   exact fO (qNu (A.a X sc N es xs g hx).1) (λ_=>rfl) rfl
  | List es pos =>
   obtain⟨xs,hx,rfl⟩:=yae.mp h
   exact fO (qND (A.a X sc N es xs g hx).1) (λ_=>rfl) rfl
  | Call f as ks pos =>
   cases f with
   | Name f p =>
    obtain _|⟨_,_⟩:=ks
    ·replace h:=(show (if bD sc f&&fN f then qC G n sc N f as else none)=some c from h)
     split at h
     ·rename_i hf
      rw [aY] at hf
      obtain⟨h1,h2⟩:=A.f X sc N f as c p pos g hf.1 hf.2 h
      exact .of h1 (h1.test λ_=>rfl) h2
     ·cases h
    ·exact gx h
   | _=>exact gx h
  | IfExp t a b pos =>
   obtain⟨ct,e1,e2⟩:=ak h
   obtain⟨x,e3,e4⟩:=ak e2
   obtain⟨y,e5,e6⟩:=ak e4
   cases e6
   exact .of (qNF (E e1).ht (E e3).he (E e5).he) (qKt (E e1).ht (E e3).ht (E e5).ht) (fP rfl)
  | _=>exact gx h
 ·intro X sc N f es c p pos g hg hp h
  unfold qC at h
  split at h
  ·rename_i i hd
   split at h
   ·cases h
   ·rename_i hne
    obtain⟨xs,hx,rfl⟩:=yae.mp h
    obtain⟨a1,a2,a3,a4⟩:=A.a X sc N es xs g hx
    exact⟨qKw g hd hg (rH hp).2 a3 (by intro z;subst z;exact hne rfl) (A.ga X sc N es xs g hx),fP rfl⟩
  ·rename_i hd
   split at h
   ·rename_i u hu
    obtain⟨hu',rfl⟩:=qIy hu
    obtain⟨xs,hx,rfl⟩:=yae.mp h
    obtain⟨a1,a2,a3,a4⟩:=A.a X sc N es xs g hx
    exact⟨qP2 g hu' hg (rH hp).2 a3 a1 a4,fP rfl⟩
   rename_i hnu
   split at h
   ·rename_i a t p2 hf
    split at h
    ·rename_i hq
     rw [aY] at hq
     obtain⟨ty,e1,e2⟩:=ak h
     obtain⟨x,e3,e4⟩:=ak e2
     cases e4
     have hdt:G.defs.lookup t=none:=by simpa using hq.2
     exact⟨qNE g (by simpa using hf) hd hdt hg hq.1 e1 (gH e3) (A.e X sc N a x g e3).hp,fP rfl⟩
    ·cases h
   ·rename_i as _ _ hf
    split at h
    ·rename_i a ha
     obtain⟨y,p2,pos2,rfl,q1,q2,q3,q4,q5⟩:=qH4 ha
     obtain⟨x,hx,rfl⟩:=yae.mp h
     exact⟨qKp g q1 q2 hd q4 hg q3 q5 (A.e X sc N a x g hx).hp,fP rfl⟩
    ·split at h
     ·rename_i a b ha
      obtain⟨y,p2,pos2,rfl,q1,q2,q3,q4⟩:=qK7 ha
      obtain⟨x,e1,e2⟩:=ak h
      obtain⟨z,e3,e4⟩:=ak e2
      cases e4
      exact⟨qKs g q1 q2 hd q4 hg q3 (gH e1) (gH e3) (A.e X sc N a x g e1).hp (A.e X sc N b z g e3).hp,fP rfl⟩
     obtain⟨b,e1,e2⟩:=ak h
     obtain⟨xs,hx,rfl⟩:=yae.mp e2
     obtain⟨a1,a2,a3,a4⟩:=A.a X sc N as xs g hx
     exact⟨qHW g e1 hd hg hp a3 a2,fP rfl⟩
   ·cases h
 ·intro X sc N es cs g h
  unfold eU at h
  split at h
  ·cases h
   exact⟨qKx,qHX,rfl,rfl⟩
  ·rename_i a r
   obtain⟨x,e1,e2⟩:=ak h
   obtain⟨xs,e3,e4⟩:=ak e2
   cases e4
   have h0:=A.e X sc N a x g e1
   obtain⟨a1,a2,a3,a4⟩:=A.a X sc N r xs g e3
   have hs:=cR (env:=X.env) (es:=r) (gH e1)
   exact⟨qHY hs h0.he a1,qGQ hs h0.hp a2,by simp [gH e1];simpa using a3,by simp [a4]⟩
 ·intro X sc N e c g h
  unfold cO at h
  split at h
  ·cases h;exact qHT
  ·rename_i e
   obtain⟨x,hx,rfl⟩:=yae.mp h
   exact qHS (A.e X sc N e x g hx).hp
 ·intro X sc N e c g h
  cases e with
  | ListComp elt gens sc' pos =>
   have q:=Cd hG A g h
   have h1:=qKv (pos:=pos) g q
   obtain⟨_,_,_,_,_,_,_,_,_,_,_,nv⟩:=q
   exact⟨.of h1 (h1.test λ_=>rfl) nv,nv⟩
  | Attribute a f pos =>
   replace h:=(show (if j6 a then _ else none)=some c from h)
   split at h
   ·rename_i hb
    obtain⟨j,e1,h⟩:=ak h
    obtain⟨x,e3,rfl⟩:=yae.mp h
    exact⟨fO (qNG hb (A.e X sc N a x g e3).he) (λ_=>rfl) rfl,fP rfl⟩
   ·cases h
  | Call f bs ks pos2 =>
   cases f with
   | Attribute a m p2 =>
    obtain _|⟨_,_⟩:=ks
    ·replace h:=(show (if j6 a&&(p2.endLine == pos2.line)&&decide (bs.length<30) then _ else none)=some c from h)
     split at h
     ·rename_i hf
      rw [aY,aY] at hf
      obtain⟨⟨hb,hln⟩,h30⟩:=hf
      obtain⟨x,e1,h⟩:=ak h
      obtain⟨ys,e3,rfl⟩:=yae.mp h
      obtain⟨b1,b2,b3,b4⟩:=A.a X sc N bs ys g e3
      exact⟨fO (qP3 g hb (A.e X sc N a x g e1).he b3 b4 hln (Qp h30) b1) (λ_=>rfl) rfl,fP rfl⟩
     ·cases h
    ·cases h
   | _=>cases h
  | _=>cases h
 ·intro X sc N es cs g h
  unfold eU at h
  split at h
  ·cases h
   exact qHV
  ·rename_i a r
   obtain⟨x,e1,e2⟩:=ak h
   obtain⟨xs,e3,e4⟩:=ak e2
   cases e4
   exact qGP (cR (env:=X.env) (es:=r) (gH e1)) (A.e X sc N a x g e1).hg (A.ga X sc N r xs g e3)
 ·intro X sc N es c g h
  unfold jU at h
  split at h
  ·rename_i a
   have h0:=A.e X sc N a c g h
   exact BW h0.he h0.ht
  ·rename_i a b r
   obtain⟨x,e1,e2⟩:=ak h
   obtain⟨y,e3,e4⟩:=ak e2
   cases e4
   have h0:=A.e X sc N a x g e1
   exact qNM h0.he h0.ht (A.w X sc N (b::r) y g e3)
  ·cases h
 ·intro X sc N es c g h
  unfold kJ at h
  split at h
  ·rename_i a
   have h0:=A.e X sc N a c g h
   exact BW h0.he h0.ht
  ·rename_i a b r
   obtain⟨x,e1,e2⟩:=ak h
   obtain⟨y,e3,e4⟩:=ak e2
   cases e4
   have h0:=A.e X sc N a x g e1
   exact qP1 h0.he h0.ht (A.v X sc N (b::r) y g e3)
  ·cases h
theorem nH (hG:∀x∈du,G.defs.lookup x=none):∀n,AllE call G k n
 | 0=>qLH
 | n+1=>qLI hG (nH hG n)
end
end Dw
namespace Dw
open PySem PySem.Spec PyProof.Rows L2
section
variable {call:Nat->List D->Option R}{G:Gx}{k:Nat}{X:Cx}{sc sc':Scope}{N:List Str}
theorem qHE (elt:Expr) (gens:List Comprehension) (sc':Scope) (pos py:Pos) (x:Str) (ln:Nat) (env:Env):∃b:Bool,swapsWith (.ListComp elt gens sc' pos) (some (.Name x py)) ln env=pure b:=⟨_,rfl⟩
theorem qPc (hG:∀x∈du,G.defs.lookup x=none) (g:XG call G k X sc N) (h:cE G n sc N e=some c) (hx:(sc.names.lookup x == some .local||sc.names.lookup x == some .cell)=true) (hsl:cz N x=some i) :
  ∃t:TS,PS X (.Assign [.Name x py] e spos) t/\∀(Ge:Gp) (H:Hp) (F:Fz) (Z:En) (τ:L2.St) (r:R) (Dn:Ends),aa call Z c=some r->SR X.K Ge H F Z τ->(∀v H' F',Gr H F H' F'->RR X.K H H' F' r v->Dn.nx (τ.set i (some v)) H')->t Dn τ H:=by
 obtain⟨l1,l2⟩:=j8 g hx
 have plain:swapsWith e (some (.Name x py)) spos.line X.env=pure false->∃t:TS,PS X (.Assign [.Name x py] e spos) t/\∀(Ge:Gp) (H:Hp) (F:Fz) (Z:En) (τ:L2.St) (r:R) (Dn:Ends),aa call Z c=some r->SR X.K Ge H F Z τ->(∀v H' F',Gr H F H' F'->RR X.K H H' F' r v->Dn.nx (τ.set i (some v)) H')->t Dn τ H:=λhs=>by
  obtain⟨te,pe,qe⟩:=((nH (call:=call) (k:=k) hG n).e X sc N e c g h).he
  exact⟨_,As (i:=i) (by rw [g.hN];exact g.nd) (by rw [g.hN];exact ig hsl) l1 pe hs l2,λGe H F Z τ r Dn h1 h2 h3=>qe Ge H F Z τ r _ h1 h2 h3⟩
 cases n with
 | zero=>cases h
 | succ n =>
  cases e with
  | ListComp elt gens sc' pos =>
   obtain⟨b,hb⟩:=qHE elt gens sc' pos py x spos.line X.env
   cases b with
   | false=>exact plain hb
   | true =>
    cases n with
    | zero=>cases h
    | succ n =>
     exact⟨_,qLE g (Cd hG (nH (call:=call) (k:=k) hG n) g h) hx hsl hb,λGe H F Z τ r Dn h1 h2 h3=>⟨Ge,F,Z,r,h1,h2,h3⟩⟩
  | SetComp _ _ _ _=>(cases n<;>cases h)
  | DictComp _ _ _ _ _=>(cases n<;>cases h)
  | _=>exact plain rfl
def EndsOk (K:Qb) (Ge:Gp) (F0:Fz) (H:Hp) (F:Fz) (o:Ou) (Dn:Ends):Prop:=match o with
 | .nx Z'=>∀τ' H' F',Keep H F H' F'->Gr Ge F0 H' F'->SR K Ge H' F' Z' τ'->Dn.nx τ' H'
 | .rt r=>∀v H' F',Gr Ge F0 H' F'->RR K Ge H' F' r v->Dn.rt v H'
 | .bk Z'=>∀τ' H' F',Keep H F H' F'->Gr Ge F0 H' F'->SR K Ge H' F' Z' τ'->Dn.bk τ' H'
 | .ct Z'=>∀τ' H' F',Keep H F H' F'->Gr Ge F0 H' F'->SR K Ge H' F' Z' τ'->Dn.ct τ' H'
theorem EndsOk.mv {K:Qb}{Ge:Gp}{F0:Fz}{H H1:Hp}{F F1:Fz}{o:Ou}{Dn:Ends}(h:EndsOk K Ge F0 H F o Dn) (k:Keep H F H1 F1):EndsOk K Ge F0 H1 F1 o Dn:=by
 cases o with
 | nx Z'=>exact fun τ' H' F' k' g s=>h τ' H' F' (k.trans k') g s
 | rt r=>exact h
 | bk Z'=>exact fun τ' H' F' k' g s=>h τ' H' F' (k.trans k') g s
 | ct Z'=>exact fun τ' H' F' k' g s=>h τ' H' F' (k.trans k') g s
variable (call X) in
def jd (st:List Stmt) (cs:List S):Prop:=∃t:TS,PSs X st t/\∀(Ge:Gp) (F0:Fz) (H:Hp) (F:Fz) (Z:En) (τ:L2.St) (o:Ou) (Dn:Ends),ae call Z cs=some o->SR X.K Ge H F Z τ->Gr Ge F0 H F->EndsOk X.K Ge F0 H F o Dn->t Dn τ H
variable (call X) in
def fw (st:Stmt) (cs:List S):Prop:=∃t:TS,PS X st t/\∀(Ge:Gp) (F0:Fz) (H:Hp) (F:Fz) (Z:En) (τ:L2.St) (o:Ou) (Dn:Ends),ae call Z cs=some o->SR X.K Ge H F Z τ->Gr Ge F0 H F->EndsOk X.K Ge F0 H F o Dn->t Dn τ H
theorem qFG (cx cy:List S):∀Z:En,ae call Z (cx++cy)=(ae call Z cx).bind (uq fun Z'=>ae call Z' cy):=by
 induction cx with
 | nil=>intro Z;rfl
 | cons a r ih =>
  intro Z
  rw [List.cons_append,eL,eL]
  rcases cG call Z a with _|(Z1|r1|Z1|Z1)
  ·rfl
  ·exact ih Z1
  ·rfl
  ·rfl
  ·rfl
theorem qNB:jd call X [] []:=⟨_,Br,λGe F0 H F Z τ o Dn h s g e=>by cases h;exact e τ H F Keep.refl g s⟩
theorem qKu {st:Stmt}{rest:List Stmt}{cx cy:List S}(h1:fw call X st cx) (h2:jd call X rest cy):jd call X (st::rest) (cx++cy):=by
 obtain⟨t1,p1,q1⟩:=h1
 obtain⟨t2,p2,q2⟩:=h2
 refine⟨_,CL p1 p2,λGe F0 H F Z τ o Dn h s g e=>?_⟩
 rw [qFG] at h
 obtain⟨o1,e1,e2⟩:=ak h
 cases o1 with
 | nx Z1=>exact q1 Ge F0 H F Z τ (.nx Z1) { Dn with nx:=t2 Dn } e1 s g fun τ' H' F' k' g' s'=>q2 Ge F0 H' F' Z1 τ' o Dn e2 s' g' (e.mv k')
 | rt r=>cases e2;exact q1 Ge F0 H F Z τ (.rt r) { Dn with nx:=t2 Dn } e1 s g e
 | bk Z1=>cases e2;exact q1 Ge F0 H F Z τ (.bk Z1) { Dn with nx:=t2 Dn } e1 s g e
 | ct Z1=>cases e2;exact q1 Ge F0 H F Z τ (.ct Z1) { Dn with nx:=t2 Dn } e1 s g e
theorem SR.frz1 {K:Qb}{Ge:Gp}{H:Hp}{F F0:Fz}{Z:En}{τ:L2.St}(s:SR K Ge H F Z τ) (g:Gr Ge F0 H F) (i:Nat):∃F',SR K Ge H F' (Dw.frz1 Z i) τ/\Keep H F H F'/\Gr Ge F0 H F':=by
 unfold Dw.frz1
 split
 ·rename_i ds0 hd
  obtain⟨a,ds,vs,eq0,h2,h3,h4,h5,h6⟩:=s.own i _ hd rfl
  cases eq0
  have kp:Keep H F H (λb=>b=a∨F b):=⟨λ_ _ h=>h,λ_ _ f h=>⟨.inr f,h⟩,λ_ _ _ _ h=>h⟩
  refine⟨λb=>b=a∨F b,?_,kp,⟨g.same,λb f=>.inr (g.sub b f),λb f=>f.elim (λz=>.inr (z▸h3)) (g.new b),λb e f=>f.elim (λz=>by subst z;rw [h5] at e;cases e) (g.dom b e)⟩⟩
  have hl:=gc hd
  refine⟨by simp [s.len],s.ent,λb e f=>f.elim (λz=>by subst z;rw [h5] at e;cases e) (s.dom b e),λj e hj=>?_,λj e hj hde=>?_,λj l e e' hj hl' hjl=>?_,λj m ks hj=>?_,λp e hp hj=>?_⟩
  ·by_cases hij:i=j
   ·subst hij
    rw [eM hl] at hj
    cases hj
    exact⟨.ref a,h2,a,vs,rfl,.inl ⟨.inl rfl,.inl h5⟩,RDs.mono kp h6⟩
   ·rw [cZ hij] at hj
    obtain⟨v,q1,q2⟩:=s.val j e hj
    exact⟨v,q1,RD.mono kp q2⟩
  ·have hij:i≠j:=λz=>by subst z;rw [eM hl] at hj;cases hj
   rw [cZ hij] at hj
   obtain⟨a',ds',vs',p1,p2,p3,p4,p5,p6⟩:=s.own j e hj hde
   refine⟨a',ds',vs',p1,p2,p3,λf=>f.elim (λz=>?_) p4,p5,RDs.mono kp p6⟩
   subst z
   exact hij (s.sep i j _ _ hd hj (by rw [h2,p2]))
  ·have ne:∀{j:Nat} {e:D},ax (Z.set i (some (false,.lst ds0))) j=some (true,e)->i≠j:=λ{j e} hj z=>by subst z;rw [eM hl] at hj;cases hj
   have n1:=ne hj
   have n2:=ne hl'
   rw [cZ n1] at hj
   rw [cZ n2] at hl'
   exact s.sep j l e e' hj hl' hjl
  ·have hij:i≠j:=λz=>by subst z;rw [eM hl] at hj;cases hj
   rw [cZ hij] at hj
   obtain⟨a',p1,p2,p3,p4⟩:=s.dct j m ks hj
   refine⟨a',p1,λf=>f.elim (λz=>?_) p2,p3,p4⟩
   subst z
   rw [h5] at p3
   cases p3
  ·have hij:i≠0:=λz=>by subst z;rw [eM hl] at hj;cases hj
   rw [cZ hij] at hj
   exact s.pin p e hp hj
 ·exact⟨F,s,Keep.refl,g⟩
theorem SR.frzs {K:Qb}{Ge:Gp}{H:Hp}{F0:Fz}{τ:L2.St}:∀(js:List Nat) {Z:En}{F:Fz},SR K Ge H F Z τ->Gr Ge F0 H F->∃F',SR K Ge H F' (js.foldl Dw.frz1 Z) τ/\Keep H F H F'/\Gr Ge F0 H F'
 | [],Z,F,s,g=>⟨F,s,Keep.refl,g⟩
 | j::js,Z,F,s,g=>by
  obtain⟨F1,s1,k1,g1⟩:=SR.frz1 s g j
  obtain⟨F2,s2,k2,g2⟩:=SR.frzs js s1 g1
  exact⟨F2,s2,k1.trans k2,g2⟩
theorem ik {st:Stmt}{mt is:List Nat}{s:S}(h:fw call X st [s]):fw call X st (f6 mt is s):=by
 unfold f6
 split
 ·exact h
 ·obtain⟨t,p,q⟩:=h
  refine⟨t,p,λGe F0 H F Z τ o Dn hv hs g e=>?_⟩
  obtain⟨F',s',k',g'⟩:=SR.frzs (is.filter (mt.contains ·)) hs g
  exact q Ge F0 H F' _ τ o Dn hv s' g' (e.mv k')
end
end Dw
namespace Dw
open PySem PySem.Spec PyProof.Rows L2
section
variable {call:Nat->List D->Option R}{G:Gx}{k:Nat}{X:Cx}{sc sc':Scope}{N:List Str}
theorem ie (Z:En) (s:S):ae call Z [s]=cG call Z s:=by
 rw [eL]
 rcases cG call Z s with _|(_|_|_|_)<;>rfl
theorem SR.bindOwn {K:Qb}{Ge:Gp}{H H1:Hp}{F F1:Fz}{Z:En}{τ:L2.St}{i:Nat}{d:D}{v:V}(h0:i≠0) (s0:SR K Ge H F Z τ) (s:SR K Ge H1 F1 Z τ) (h:RR K H H1 F1 (true,d) v):SR K Ge H1 F1 (Z.set i (some (true,d))) (τ.set i (some v)):=by
 obtain⟨a,ds,vs,rfl,rfl,h3,h4,h5,h6⟩:=h
 have hne:∀{j:Nat} {e:D} {a':Addr},ax Z j=some (true,e)->τ[j]?=some (some (.ref a'))->a'≠a:=λ{j e a'} hj ht z=>by
  obtain⟨b,u,q2,_,q5⟩:=s0.addr hj
  rw [ht] at q2
  cases q2
  subst z
  rw [h3] at q5
  cases q5
 refine⟨by simp [s.len],s.ent,s.dom,λj e hj=>?_,λj e hj hde=>?_,λj l e e' hj hl hjl=>?_,λj m ks hj=>?_,λp e hp hj=>?_⟩
 ·have hij:i≠j:=λz=>by
   subst z
   rw [eM (by simpa using gc hj)] at hj
   cases hj
  rw [cZ hij] at hj
  obtain⟨u,q1,q2⟩:=s.val j e hj
  exact⟨u,by rw [cM hij];exact q1,q2⟩
 ·by_cases hij:i=j
  ·subst hij
   have hl:i<Z.length:=by simpa using gc hj
   rw [eM hl] at hj
   cases hj
   exact⟨a,ds,vs,rfl,by rw [k0 (by rw [<-s.len];exact hl)],s0.ent.free h3,h4,h5,h6⟩
  ·rw [cZ hij] at hj
   obtain⟨a',ds',vs',q1,q2,q3⟩:=s.own j e hj hde
   exact⟨a',ds',vs',q1,by rw [cM hij];exact q2,q3⟩
 ·by_cases n1:i=j
  ·by_cases n2:i=l
   ·rw [<-n1,<-n2]
   ·subst n1
    have hl':i<Z.length:=by simpa using gc hj
    rw [cZ n2] at hl
    obtain⟨b,u,q2,_⟩:=s.addr hl
    rw [k0 (by rw [<-s.len];exact hl'),cM n2,q2] at hjl
    cases hjl
    exact Qn rfl (hne hl q2)
  ·rw [cZ n1] at hj
   by_cases n2:i=l
   ·subst n2
    have hl':i<Z.length:=by simpa using gc hl
    obtain⟨b,u,q2,_⟩:=s.addr hj
    rw [k0 (by rw [<-s.len];exact hl'),cM n1,q2] at hjl
    cases hjl
    exact Qn rfl (hne hj q2)
   ·rw [cZ n2] at hl
    rw [cM n1,cM n2] at hjl
    exact s.sep j l e e' hj hl hjl
 ·have hij:i≠j:=λz=>by
   subst z
   rw [eM (by simpa using gc hj)] at hj
   cases hj
  rw [cZ hij] at hj
  obtain⟨a',q1,q2⟩:=s.dct j m ks hj
  exact⟨a',by rw [cM hij];exact q1,q2⟩
 ·rw [cZ h0] at hj
  rw [cM h0]
  exact s.pin p e hp hj
theorem qNv (hG:∀x∈du,G.defs.lookup x=none) (g:XG call G k X sc N) (h0:keep=true->i≠0) (h:cE G n sc N e=some c) (hx:(sc.names.lookup x == some .local||sc.names.lookup x == some .cell)=true) (hsl:cz N x=some i) :
  fw call X (.Assign [.Name x py] e spos) [.set i keep c]:=by
 obtain⟨t,p,q⟩:=qPc (py:=py) (spos:=spos) hG g h hx hsl
 refine⟨t,p,λGe F0 H F Z τ o Dn hv hs gr en=>?_⟩
 rw [ie,Bx] at hv
 obtain⟨r,e1,e2⟩:=ak hv
 cases e2
 refine q Ge H F Z τ r Dn e1 hs λv H' F' g' rr=>?_
 obtain⟨b,d⟩:=r
 have froz:gz keep (b,d)=(false,d)->Dn.nx (τ.set i (some v)) H':=λhk=>by
  obtain⟨F2,g2,rd⟩:=rr.fz g'
  have en':∀τ' H' F',Keep H F H' F'->Gr Ge F0 H' F'->SR X.K Ge H' F' (Z.set i (some (gz keep (b,d)))) τ'->Dn.nx τ' H':=en
  rw [hk] at en'
  exact en' _ H' F2 g2.keep (gr.trans g2) ((hs.grow g2).bind rd)
 cases b with
 | false=>exact froz (by cases keep<;>rfl)
 | true =>
  cases keep with
  | false=>exact froz rfl
  | true=>exact en _ H' F' g'.keep (gr.trans g') (SR.bindOwn (h0 rfl) hs (hs.grow g') rr)
theorem ma (h:H a=some (.lst vs)) (hf:¬F a):Keep H F (aA H a (.lst ws)) F:=⟨λp xs q=>by
  have ne:p≠a:=λz=>by subst z;rcases q with q|⟨o,q⟩<;>(rw [h] at q;cases q)
  rcases q with q|⟨o,q⟩
  ·exact .inl (by rw [aX ne];exact q)
  ·exact .inr ⟨o,by rw [aX ne];exact q⟩,λp xs f q=>by
  have ne:p≠a:=λz=>by subst z;exact hf f
  refine⟨f,?_⟩
  rcases q with q|⟨o,q⟩
  ·exact .inl (by rw [aX ne];exact q)
  ·exact .inr ⟨o,by rw [aX ne];exact q⟩,λp C dx fs q=>by rw [aX (λz=>by subst z;rw [h] at q;cases q)];exact q⟩
theorem ka (g:Gr Ge F0 H F) (h:H a=some (.lst vs)) (hg:Ge a=none):Gr Ge F0 (aA H a (.lst ws)) F:=⟨λb o e=>by rw [aX (fx e hg)];exact g.same b o e,g.sub,g.new,λb e=>by
  by_cases z:b=a
  ·subst z;rw [ef] at e;cases e
  ·rw [aX z] at e;exact g.dom b e⟩
theorem nI {K:Qb}{Ge:Gp}{H:Hp}{F0 F:Fz}{Z:En}{τ:L2.St}{i:Nat}{a:Addr}{ds es:List D}{vs ws:List V}(s:SR K Ge H F Z τ) (g:Gr Ge F0 H F) (hi:ax Z i=some (true,.lst ds)) (ht:τ[i]?=some (some (.ref a))) (hg:Ge a=none) (hf:¬F a) (h:H a=some (.lst vs)) (r:RDs K H F es ws) :
  SR K Ge (aA H a (.lst ws)) F (Z.set i (some (true,.lst es))) τ:=by
 have kp:=ma (ws:=ws) h hf
 have hl:=gc hi
 refine⟨by simp [s.len],(ka (ws:=ws) g h hg).same,(ka (ws:=ws) g h hg).dom,λj e hj=>?_,λj e hj hde=>?_,λj l e e' hj hl' hjl=>?_,λj m ks hj=>?_,λp e hp hj=>?_⟩
 ·have hij:i≠j:=λz=>by subst z;rw [eM hl] at hj;cases hj
  rw [cZ hij] at hj
  obtain⟨v,q1,q2⟩:=s.val j e hj
  exact⟨v,q1,RD.mono kp q2⟩
 ·by_cases hij:i=j
  ·subst hij
   rw [eM hl] at hj
   cases hj
   exact⟨a,es,ws,rfl,ht,hg,hf,ef,RDs.mono kp r⟩
  ·rw [cZ hij] at hj
   obtain⟨a',ds',vs',p1,p2,p3,p4,p5,p6⟩:=s.own j e hj hde
   have ne:a'≠a:=λz=>by subst z;exact hij (s.sep i j _ _ hi hj (by rw [ht,p2]))
   exact⟨a',ds',vs',p1,p2,p3,p4,by rw [aX ne];exact p5,RDs.mono kp p6⟩
 ·have back:∀{j:Nat} {e:D},ax (Z.set i (some (true,.lst es))) j=some (true,e)->∃e',ax Z j=some (true,e'):=λ{j e} hj=>by
   by_cases hij:i=j
   ·subst hij;exact⟨_,hi⟩
   ·rw [cZ hij] at hj;exact⟨e,hj⟩
  obtain⟨_,b1⟩:=back hj
  obtain⟨_,b2⟩:=back hl'
  exact s.sep j l _ _ b1 b2 hjl
 ·have hij:i≠j:=λz=>by subst z;rw [eM hl] at hj;cases hj
  rw [cZ hij] at hj
  obtain⟨a',p1,p2,p3,p4⟩:=s.dct j m ks hj
  have ne:a'≠a:=λz=>by subst z;rw [h] at p3;cases p3
  exact⟨a',p1,p2,by rw [aX ne];exact p3,p4⟩
 ·by_cases hij:i=0
  ·subst hij;exact s.pin p _ hp hi
  ·rw [cZ hij] at hj;exact s.pin p e hp hj
theorem jw {K:Qb}{Ge:Gp}{H:Hp}{F:Fz}{Z:En}{τ:L2.St}{i:Nat}{ds:List D}(s:SR K Ge H F Z τ) (h:ax Z i=some (true,.lst ds)):∃a vs,τ[i]?=some (some (.ref a))/\Ge a=none/\¬F a/\H a=some (.lst vs)/\RDs K H F ds vs:=by
 obtain⟨a,ds',vs,e,h2,h3,h4,h5,h6⟩:=s.own i _ h rfl
 cases e
 exact⟨a,vs,h2,h3,h4,h5,h6⟩
theorem qNL {n:Nat}(A:AllE call G k n) (g:XG call G k X sc N) {x m:Str}{i:Nat}{p p2 p3 spos:Pos}{e:Expr}{c:C}(hm:m=Qa "append") (hln:(p2.endLine == p3.line)=true) (hv:df sc N x=some i) (h:cE G n sc N e=some c) :
  fw call X (.Expr (.Call (.Attribute (.Name x p) m p2) [e] [] p3) spos) [.app i c]:=by
 subst hm
 obtain⟨h1,h2,h3,h4⟩:=jv g hv
 obtain⟨te,pe,qe⟩:=(A.e X sc N e c g h).he
 have pn:PE X (.Name x p) (ni i):=ia h1 h2 h3 h4
 have hst:=cR (env:=X.env) (es:=[]) (gH h)
 refine⟨_,Bp (zH pH PySem.F.slot_list_append PySem.F.type_list_append CZ pn (fy pe gC hst) (hfew:=by rw [hst];rfl) (hline:=hln) (hs:=hst)),λGe F0 H F Z τ o Dn hvv hs gr en=>?_⟩
 rw [ie,Bt] at hvv
 obtain⟨r,e1,e2⟩:=ak hvv
 unfold iH at e2
 split at e2
 ·rename_i xs hg
  split at e2
  ·rename_i hlt
   cases e2
   obtain⟨a,vs,q1,q2,q3,q4,q5⟩:=jw hs hg
   refine⟨.ref a,q1,.inl ⟨rfl,_,SqL.of q4⟩,?_⟩
   refine qe Ge H F Z τ r _ e1 hs λv H1 F1 g1 rr=>?_
   obtain⟨F2,g2,rd⟩:=rr.fz g1
   have s2:=hs.grow g2
   obtain⟨a',vs',q1',q2',q3',q4',q5'⟩:=jw s2 hg
   rw [q1] at q1'
   cases q1'
   have gr2:=gr.trans g2
   refine⟨a,vs',v,rfl,rfl,q4',by rw [RDs.length q5'];exact hlt,?_⟩
   exact en _ _ F2 (g2.keep.trans (ma q4' q3')) (ka gr2 q4' q2') (nI s2 gr2 hg q1 q2' q3' q4' (RDs.append q5' ⟨v,[],rfl,rd,rfl⟩))
  ·cases e2
 ·cases e2
section
open AutoSeq1
theorem qOM (l:Addr) (items:Array Value) (n:Nat) (b:Addr) (items2:Array Value) (n2:Nat) (dd:Option Addr) (sl:Array (Option Value)) (hs0:¬(!items.isEmpty&&Builtin.List.listTooLong (items.size+items2.size))=true) (hs1:items.size<=sizeLine) (hs2:items.size+items2.size<=sizeLine+1) :
  Meets (Builtin.«list.extend» ⟨[.ref l,.ref b],[]⟩) (λ_ R s=>s.heap.get? l=some { cls:=.type "list",dict:=none,data:=.seq items n,slots:=#[] }/\s.heap.get? b=some { cls:=.type "tuple",dict:=dd,data:=.seq items2 n2,slots:=sl }/\R (.ok (.ret Value.none)) { s with heap:=s.heap.update l (Obj.mapSeq λx=>x++items2),toks:=s.toks }):=
 .of_wp λprog w A R s h=>by
  obtain⟨hp,g,d,tk,os⟩:=s;obtain⟨hl,hb,h⟩:=h;have f1:=idx_int;have f2:=AutoSeq1.sub_tuple_tuple;have f3:=AutoSeq1.sub_list_list;have f4:=AutoSeq1.sub_tuple_list;have f5:=AutoSeq1.sub_list_tuple
  have hz':(items++items2).size<=sizeLine+1:=by rw [Array.size_append];exact hs2
  wp_walk using (wpAny_updateSeq hl rfl (hz:=hs1) (_hz':=hz')),wpAny_loadPart' hl,wpAny_loadPart' hb;exact⟨_,rfl,h⟩
end
theorem qQH {id:String}{r r':V->List V->Hp->VK->Prop}(h:kM X id r) (h':kM X id r'):kM X id (λx vs H Q=>r x vs H Q∨r' x vs H Q):=
 λpins s Z H x vs v us Q I rx rv z=>z.elim (h pins s Z H x vs v us Q I rx rv) (h' pins s Z H x vs v us Q I rx rv)
theorem qOu:kM X "list.extend" (λx vs H Q=>∃l b xs zs,x=.ref l/\vs=[.ref b]/\H l=some (.lst xs)/\SqT X.K H b zs/\xs.length+zs.length<=sizeLine/\Q .non (aA H l (.lst (xs++zs)))):=by
 intro pins s Z H x vs v us Q I rx rv h
 obtain⟨l,b,xs,zs,rfl,rfl,hH,hB,hz,q⟩:=h
 cases rx
 obtain⟨u,rfl,ru⟩:=eY rv
 cases ru
 obtain⟨z,its,n,r,hl,e⟩:=I.lstM hH
 obtain⟨its2,r2,⟨⟨cls,dd,data,sl⟩,e2,hc2,n2,hd2⟩,z2⟩:=I.tuple hB
 simp only at hc2 hd2
 subst hc2 hd2
 have hl2:=r2.length
 have hsz:its.toArray.size+its2.toArray.size<=sizeLine:=by rw [aZ,aZ];omega
 have hlong:¬(!its.toArray.isEmpty&&Builtin.List.listTooLong (its.toArray.size+its2.toArray.size))=true:=by
  rw [vC hsz,kX]
  exact fD
 refine call_meets F.slot_list_extend ⟨_,e,rfl⟩ F.entry_list_extend (F.args_list_extend_2 _ _)
  (qOM l its.toArray n b its2.toArray n2 dd sl hlong (by rw [aZ];omega) (by omega)) ⟨e,e2,?_⟩
 refine⟨.non,_,I.lset (its':=its++its2) hH e (by simp) (r.append r2) ?_,rfl,q⟩
 rw [i8]
 omega
theorem qNH (A:AllE call G k n) (g:XG call G k X sc N) {x m:Str}{i:Nat}{p p2 p3 spos:Pos}{e:Expr}{c:C}(hm:m=Qa "extend") (hln:(p2.endLine == p3.line)=true) (hv:df sc N x=some i) (h:cE G n sc N e=some c) :
  fw call X (.Expr (.Call (.Attribute (.Name x p) m p2) [e] [] p3) spos) [.ext i c]:=by
 subst hm
 obtain⟨h1,h2,h3,h4⟩:=jv g hv
 obtain⟨te,pe,qe⟩:=(A.e X sc N e c g h).he
 have pn:PE X (.Name x p) (ni i):=ia h1 h2 h3 h4
 have hst:=cR (env:=X.env) (es:=[]) (gH h)
 refine⟨_,Bp (zH pH PySem.F.slot_list_extend PySem.F.type_list_extend (qQH qIs qOu) pn (fy pe gC hst) (hfew:=by rw [hst];rfl) (hline:=hln) (hs:=hst)),λGe F0 H F Z τ o Dn hvv hs gr en=>?_⟩
 rw [ie,Bu] at hvv
 obtain⟨r,e1,e2⟩:=ak hvv
 unfold pS at e2
 split at e2
 ·rename_i ys
  split at e2
  ·rename_i xs hg
   split at e2
   ·rename_i hlt
    cases e2
    obtain⟨a,vs,q1,q2,q3,q4,q5⟩:=jw hs hg
    refine⟨.ref a,q1,.inl ⟨rfl,_,SqL.of q4⟩,?_⟩
    refine qe Ge H F Z τ _ _ e1 hs λv H1 F1 g1 rr=>?_
    have rr0:=rr
    obtain⟨b,ds,ws,ed,rfl,r1,r2,r3,r4⟩:=rr0
    cases ed
    have s2:=hs.grow g1
    obtain⟨a',vs',q1',q2',q3',q4',q5'⟩:=jw s2 hg
    rw [q1] at q1'
    cases q1'
    have gr2:=gr.trans g1
    refine .inl ⟨a,b,vs',ws,rfl,rfl,q4',r3,by rw [RDs.length q5',RDs.length r4];exact hlt,?_⟩
    exact en _ _ F1 (g1.keep.trans (ma q4' q3')) (ka gr2 q4' q2') (nI s2 gr2 hg q1 q2' q3' q4' (RDs.append q5' r4))
   ·cases e2
  ·cases e2
 ·rename_i ys
  split at e2
  ·rename_i xs hg
   split at e2
   ·rename_i hlt
    cases e2
    obtain⟨a,vs,q1,q2,q3,q4,q5⟩:=jw hs hg
    refine⟨.ref a,q1,.inl ⟨rfl,_,SqL.of q4⟩,?_⟩
    refine qe Ge H F Z τ _ _ e1 hs λv H1 F1 g1 rr=>?_
    obtain⟨b,ws,rfl,r3,r4⟩:=rr
    have s2:=hs.grow g1
    obtain⟨a',vs',q1',q2',q3',q4',q5'⟩:=jw s2 hg
    rw [q1] at q1'
    cases q1'
    have gr2:=gr.trans g1
    refine .inr ⟨a,b,vs',ws,rfl,rfl,q4',r3,by rw [RDs.length q5',RDs.length r4];exact hlt,?_⟩
    exact en _ _ F1 (g1.keep.trans (ma q4' q3')) (ka gr2 q4' q2') (nI s2 gr2 hg q1 q2' q3' q4' (RDs.append q5' r4))
   ·cases e2
  ·cases e2
 ·cases e2
theorem RDs.last {K:Qb}{H:Hp}{F:Fz}{ds:List D}{vs:List V}{d:D}(h:RDs K H F ds vs) (e:ds.getLast?=some d):∃v,vs[vs.length - 1]?=some v/\RD K H F d v:=by
 rw [List.getLast?_eq_getElem?] at e
 obtain⟨v,e1,e2⟩:=RDs.get h e
 exact⟨v,by rw [RDs.length h];exact e1,e2⟩
theorem RDs.init {K:Qb}{H:Hp}{F:Fz}{ds:List D}{vs:List V}(h:RDs K H F ds vs):RDs K H F ds.dropLast vs.dropLast:=by
 rw [List.dropLast_eq_take,List.dropLast_eq_take,RDs.length h]
 exact RDs.take _ h
theorem BX (g:XG call G k X sc N) (hm:m=Qa "pop") (hln:(p2.endLine == p3.line)=true) (ht:gU sc N tg=some t) (hv:df sc N x=some i) (h1':swapsWithSole [tg] (.Call (.Attribute (.Name x p) m p2) [] [] p3) spos.line X.env=pure false) (h2':swappedStores [tg] (.Call (.Attribute (.Name x p) m p2) [] [] p3) X.env=pure none) (h3':(assignEach [tg] X.env).map (·.2)=[assign tg X.env]) :
  fw call X (.Assign [tg] (.Call (.Attribute (.Name x p) m p2) [] [] p3) spos) [.pop t i]:=by
 subst hm
 obtain⟨h1,h2,h3,h4⟩:=jv g hv
 have pn:PE X (.Name x p) (ni i):=ia h1 h2 h3 h4
 refine⟨_,qQq (Al pH PySem.F.slot_list_pop PySem.F.type_list_pop Ad pn (hline:=hln)) (BY g ht) h1' h2' h3',λGe F0 H F Z τ o Dn hvv hs gr en=>?_⟩
 rw [ie,Bw] at hvv
 unfold qc at hvv
 split at hvv
 ·rename_i xs hg
  obtain⟨d,e1,e2⟩:=ak hvv
  obtain⟨Z',e3,e4⟩:=yae.mp e2
  subst e4
  obtain⟨a,vs,q1,q2,q3,q4,q5⟩:=jw hs hg
  obtain⟨y,l1,l2⟩:=RDs.last q5 e1
  refine⟨.ref a,q1,.inl ⟨rfl,_,SqL.of q4⟩,a,vs,y,rfl,rfl,q4,l1,?_⟩
  have kp:=ma (ws:=vs.dropLast) q4 q3
  have gr2:=ka (ws:=vs.dropLast) gr q4 q2
  exact oa (nI hs gr hg q1 q2 q3 q4 (RDs.init q5)) e3 (RD.mono kp l2) fun τ' s'=>en τ' _ F kp gr2 s'
 ·cases hvv
theorem qKq (g:XG call G k X sc N) {kk:Int}{p pl p2 p3 pk ps spos:Pos}(hm:m=Qa "pop") (hln:(p2.endLine == p3.line)=true) (hx:(sc.names.lookup x == some .local||sc.names.lookup x == some .cell)=true) (hj:cz N x=some j) (hv:df sc N l=some i) :
  fw call X (.Assign [.Name x p] (.Subscript (.Call (.Attribute (.Name l pl) m p2) [] [] p3) (.Constant (.int kk) jj pk) ps) spos) [.popX j i kk]:=by
 subst hm
 obtain⟨h1,h2,h3,h4⟩:=jv g hv
 have pn:PE X (.Name l pl) (ni i):=ia h1 h2 h3 h4
 obtain⟨l1,l2⟩:=j8 g hx
 refine⟨_,As (i:=j) (by rw [g.hN];exact g.nd) (by rw [g.hN];exact ig hj) l1 (zI (ix_list.or Ac) (Al pH PySem.F.slot_list_pop PySem.F.type_list_pop Ad pn (hline:=hln)) Am (by intro _ _;rfl)) rfl l2,λGe F0 H F Z τ o Dn hvv hs gr en=>?_⟩
 rw [ie,Cp] at hvv
 unfold nA at hvv
 split at hvv
 ·rename_i xs hg
  obtain⟨d,e1,e2⟩:=ak hvv
  obtain⟨r,e3,e4⟩:=ak e2
  cases e4
  obtain⟨a,vs,q1,q2,q3,q4,q5⟩:=jw hs hg
  obtain⟨y,z1,z2⟩:=RDs.last q5 e1
  refine⟨.ref a,q1,.inl ⟨rfl,_,SqL.of q4⟩,a,vs,y,rfl,rfl,q4,z1,?_⟩
  have kp:=ma (ws:=vs.dropLast) q4 q3
  have gr2:=ka (ws:=vs.dropLast) gr q4 q2
  have z2:=RD.mono kp z2
  have s2:=nI hs gr hg q1 q2 q3 q4 (RDs.init q5)
  have fin:∀u,RD X.K (aA H a (.lst vs.dropLast)) F r.2 u->Dn.nx (τ.set j (some u)) (aA H a (.lst vs.dropLast)):=λu hu=>en _ _ F kp gr2 (s2.bind hu)
  cases d with
  | lst ds =>
   obtain⟨d',e5,e6⟩:=yae.mp e3
   subst e6
   obtain⟨b,ws,rfl,w1,w2⟩:=z2
   obtain⟨u,w3,w4⟩:=rl w2 e5
   exact .inl ⟨b,ws,kk,u,rfl,rfl,w1.sq,w3,fin u w4⟩
  | tup ds =>
   obtain⟨d',e5,e6⟩:=yae.mp e3
   subst e6
   obtain⟨b,ws,rfl,w1,w2⟩:=z2
   obtain⟨u,w3,w4⟩:=rl w2 e5
   exact .inr ⟨b,ws,kk,u,rfl,rfl,w1,w3,fin u w4⟩
  | _=>cases e3
 ·cases hvv
theorem qHP (A:AllE call G k n) (g:XG call G k X sc N) (h:cE G n sc N t=some c) (hb:jd call X body cb):fw call X (.While t body [] spos) [.whl c cb]:=by
 obtain⟨tt,pt,qt⟩:=(A.e X sc N t c g h).ht
 obtain⟨tb,pb,qb⟩:=hb
 refine⟨_,qKI (by rw [g.xe];exact PassesOwn.never) pt pb,λGe F0 H F Z τ o Dn hvv hs gr en=>?_⟩
 rw [ie,By] at hvv
 refine⟨λm τ' H'=>∃F' Z',SR X.K Ge H' F' Z' τ'/\Gr Ge F0 H' F'/\Keep H F H' F'/\fZ (fun Z'=>aa call Z' c) (fun Z'=>ae call Z' cb) m Z'=some o,⟨fR,F,Z,hs,gr,Keep.refl,hvv⟩,?_⟩
 rintro m τ' H' ⟨F',Z',sr',gr',kp',ev'⟩
 cases m with
 | zero=>cases ev'
 | succ m =>
  obtain⟨⟨x,d⟩,e1,e2⟩:=ak (show ((aa call Z' c).bind (t9 Z' ((ae call Z' cb).bind (lC (fZ (fun Z'=>aa call Z' c) (fun Z'=>ae call Z' cb) m)))))=some o from ev')
  cases d with
  | bl b =>
   refine qt Ge H' F' Z' τ' x b _ e1 sr' λH1 F1 g1=>?_
   cases b with
   | false =>
    cases e2
    exact pU (en τ' H1 F1 (kp'.trans g1.keep) (gr'.trans g1) (sr'.grow g1))
   | true =>
    obtain⟨o1,b2,e3⟩:=ak (show ((ae call Z' cb).bind (lC (fZ (fun Z'=>aa call Z' c) (fun Z'=>ae call Z' cb) m)))=some o from e2)
    refine pV ?_
    cases o1 with
    | nx Z2=>exact⟨fun τ2 H2=>∃F2,SR X.K Ge H2 F2 Z2 τ2/\Gr Ge F0 H2 F2/\Keep H F H2 F2,fun τ2 H2 ⟨F2,q1,q2,q3⟩=>⟨m,by omega,F2,Z2,q1,q2,q3,e3⟩,qb Ge F0 H1 F1 Z' τ' (.nx Z2) _ b2 (sr'.grow g1) (gr'.trans g1) fun τ5 H5 F5 k5 g5 s5=>⟨F5,s5,g5,(kp'.trans g1.keep).trans k5⟩⟩
    | ct Z2=>exact⟨fun τ2 H2=>∃F2,SR X.K Ge H2 F2 Z2 τ2/\Gr Ge F0 H2 F2/\Keep H F H2 F2,fun τ2 H2 ⟨F2,q1,q2,q3⟩=>⟨m,by omega,F2,Z2,q1,q2,q3,e3⟩,qb Ge F0 H1 F1 Z' τ' (.ct Z2) _ b2 (sr'.grow g1) (gr'.trans g1) fun τ5 H5 F5 k5 g5 s5=>⟨F5,s5,g5,(kp'.trans g1.keep).trans k5⟩⟩
    | bk Z2 =>
     cases e3
     exact⟨λ_ _=>False,λ_ _ z=>z.elim,qb Ge F0 H1 F1 Z' τ' (.bk Z2) _ b2 (sr'.grow g1) (gr'.trans g1) fun τ5 H5 F5 k5 g5 s5=>en τ5 H5 F5 ((kp'.trans g1.keep).trans k5) g5 s5⟩
    | rt r =>
     cases e3
     exact⟨λ_ _=>False,λ_ _ z=>z.elim,qb Ge F0 H1 F1 Z' τ' (.rt r) _ b2 (sr'.grow g1) (gr'.trans g1) en⟩
  | _=>cases e2
theorem qNz (hG:∀x∈du,G.defs.lookup x=none) (g:XG call G k X sc N) (h:cE G n sc N e=some c):fw call X (.Return (some e) spos) [.ret c]:=by
 have ok:=(nH (call:=call) (k:=k) hG n).e X sc N e c g h
 by_cases hc:∃i,c=.v i
 ·obtain⟨i,rfl⟩:=hc
  cases n with
  | zero=>cases h
  | succ n =>
   have hn:∃x p,e=.Name x p/\df sc N x=some i:=by
    rcases ok.nv with ⟨x,p,rfl⟩|z
    ·exact⟨x,p,rfl,qO5 h⟩
    ·exact Qn rfl (z i)
   obtain⟨x,p,rfl,hv⟩:=hn
   obtain⟨h1,h2,h3,h4⟩:=jv g hv
   refine⟨_,Ap (ia h1 h2 h3 h4),λGe F0 H F Z τ o Dn hvv hs gr en=>?_⟩
   rw [ie,uY] at hvv
   obtain⟨r,e1,e2⟩:=ak hvv
   cases e2
   have e1:(ax Z i).bind yB=some r:=e1
   obtain⟨⟨b,d⟩,e0,e1⟩:=ak e1
   cases b with
   | false =>
    cases e1
    obtain⟨v,q1,q2⟩:=hs.val i d e0
    exact⟨v,q1,en v H F gr q2⟩
   | true =>
    cases d with
    | lst ds0 =>
     cases e1
     obtain⟨a,ds,vs,q1,q2,q3,q4,q5,q6⟩:=hs.own i _ e0 rfl
     exact⟨.ref a,q2,en _ H F gr ⟨a,ds,vs,q1,rfl,q3,q4,q5,q6⟩⟩
    | _=>cases e1
 ·obtain⟨te,pe,qe⟩:=ok.he
  refine⟨_,Ap pe,λGe F0 H F Z τ o Dn hvv hs gr en=>?_⟩
  rw [ie,uY] at hvv
  obtain⟨r,e1,e2⟩:=ak hvv
  cases e2
  have e1':aa call Z c=some r:=by
   cases c with
   | v i=>exact Qn ⟨i,rfl⟩ hc
   | _=>exact e1
  exact qe Ge H F Z τ r _ e1' hs λv H' F' g' rr=>en v H' F' (gr.trans g') (rr.back hs.ent)
theorem qP6 (A:AllE call G k n) (g:XG call G k X sc N) (h:cE G n sc N t=some c) (ha:jd call X a ca) (hb:jd call X b cb):fw call X (.If t a b spos) [.ite c ca cb]:=by
 obtain⟨tt,pt,qt⟩:=(A.e X sc N t c g h).ht
 obtain⟨ta,pa,qa⟩:=ha
 obtain⟨tb,pb,qb⟩:=hb
 refine⟨_,qTc pt pa pb,λGe F0 H F Z τ o Dn hvv hs gr en=>?_⟩
 rw [ie,Bv] at hvv
 obtain⟨r,e1,e2⟩:=ak hvv
 obtain⟨x,d⟩:=r
 cases d with
 | bl bb =>
  refine qt Ge H F Z τ x bb _ e1 hs λH' F' g'=>?_
  cases bb with
  | true=>exact pV (qa Ge F0 H' F' Z τ o Dn e2 (hs.grow g') (gr.trans g') (en.mv g'.keep))
  | false=>exact pU (qb Ge F0 H' F' Z τ o Dn e2 (hs.grow g') (gr.trans g') (en.mv g'.keep))
 | _=>cases e2
theorem ro (g:XG call G k X sc N) (ht:gU sc N tg=some t) (hi:SndI X tg it b src) (hf:∀x,foldedSetIterable it X.env x=pure x) (hb:jd call X body cb)
  (hv:∀Z o,cG call Z s=some o->∃its,src Z=some its/\bC call cb t its Z=some o):fw call X (.For tg it body [] spos) [s]:=by
 obtain⟨wi,pi,qi⟩:=hi
 obtain⟨tb,pb,qb⟩:=hb
 have pg:=BY g ht
 refine⟨_,qQo (by rw [g.xe];exact PassesOwn.never) g.calm pi pg pb hf,λGe F0 H F Z τ o Dn hvv hs gr en=>?_⟩
 rw [ie] at hvv
 obtain⟨its,e1,e2⟩:=hv Z o hvv
 refine qi Ge H F Z τ its _ e1 hs λJ H1 F1 g1 fO _=>?_
 refine⟨λi m τ' H'=>i<=its.length/\m=its.length - i/\∃F' Z',SR X.K Ge H' F' Z' τ'/\Gr Ge F0 H' F'/\Keep H1 F1 H' F'/\bC call cb t (its.drop i) Z'=some o,⟨its.length,fq _,rfl,F1,Z,hs.grow g1,gr.trans g1,Keep.refl,by simpa using e2⟩,?_⟩
 rintro i m τ' H' ⟨hi,rfl,F',Z',sr',gr',kp',ev'⟩
 obtain⟨okI,okS⟩:=fO H' F' kp' gr'.dom
 by_cases hlt:i<its.length
 ·refine .inr ?_
  have hdi:its[i]?=some its[i]:=cV hlt
  obtain⟨go,yl⟩:=okI i _ hdi
  have hdr:its.drop i=its[i]::its.drop (i+1):=sL hlt
  rw [hdr,kz] at ev'
  obtain⟨Z1,b1,ev'⟩:=ak ev'
  obtain⟨o1,b2,ev'⟩:=ak ev'
  cases o1 with
  | nx Z2 =>
   refine⟨go,fun τ2 H2=>∃F2,SR X.K Ge H2 F2 Z2 τ2/\Gr Ge F0 H2 F2/\Keep H1 F1 H2 F2,fun τ2 H2 ⟨F2,q1,q2,q3⟩=>⟨its.length - (i+1),by omega,hlt,rfl,F2,Z2,q1,q2,q3,ev'⟩,λx H3 y=>?_⟩
   obtain⟨F3,g3,rd3⟩:=yl x H3 y
   refine oa (sr'.grow g3) b1 rd3 fun τ4 s4=>?_
   exact qb Ge F0 H3 F3 Z1 τ4 (.nx Z2) _ b2 s4 (gr'.trans g3) fun τ5 H5 F5 k5 g5 s5=>⟨F5,s5,g5,(kp'.trans g3.keep).trans k5⟩
  | rt r =>
   cases ev'
   refine⟨go,λ_ _=>False,λ_ _ z=>z.elim,λx H3 y=>?_⟩
   obtain⟨F3,g3,rd3⟩:=yl x H3 y
   refine oa (sr'.grow g3) b1 rd3 fun τ4 s4=>?_
   exact qb Ge F0 H3 F3 Z1 τ4 (.rt r) _ b2 s4 (gr'.trans g3) en
  | ct Z2 =>
   refine⟨go,fun τ2 H2=>∃F2,SR X.K Ge H2 F2 Z2 τ2/\Gr Ge F0 H2 F2/\Keep H1 F1 H2 F2,fun τ2 H2 ⟨F2,q1,q2,q3⟩=>⟨its.length - (i+1),by omega,hlt,rfl,F2,Z2,q1,q2,q3,ev'⟩,λx H3 y=>?_⟩
   obtain⟨F3,g3,rd3⟩:=yl x H3 y
   refine oa (sr'.grow g3) b1 rd3 fun τ4 s4=>?_
   exact qb Ge F0 H3 F3 Z1 τ4 (.ct Z2) _ b2 s4 (gr'.trans g3) fun τ5 H5 F5 k5 g5 s5=>⟨F5,s5,g5,(kp'.trans g3.keep).trans k5⟩
  | bk Z2 =>
   cases ev'
   refine⟨go,λ_ _=>False,λ_ _ z=>z.elim,λx H3 y=>?_⟩
   obtain⟨F3,g3,rd3⟩:=yl x H3 y
   refine oa (sr'.grow g3) b1 rd3 fun τ4 s4=>?_
   exact qb Ge F0 H3 F3 Z1 τ4 (.bk Z2) _ b2 s4 (gr'.trans g3) fun τ5 H5 F5 k5 g5 s5=>en τ5 H5 F5 (((g1.keep.trans kp').trans g3.keep).trans k5) g5 s5
 ·have hin:i=its.length:=by omega
  subst hin
  rw [List.drop_of_length_le (aK _)] at ev'
  cases ev'
  exact .inl ⟨okS,en τ' H' F' (g1.keep.trans kp') gr' sr'⟩
end
end Dw
namespace Dw
open PySem PySem.Spec PyProof.Rows L2
section
variable {call:Nat->List D->Option R}{G:Gx}{k:Nat}
structure AllS (call:Nat->List D->Option R) (G:Gx) (k n:Nat):Prop where
 o:∀(X:Cx) (sc:Scope) (N:List Str) (mt:List Nat) (st:Stmt) (cs:List S),XG call G k X sc N->cS G n sc N mt st=some cs->fw call X st cs
 s:∀(X:Cx) (sc:Scope) (N:List Str) (mt:List Nat) (st:List Stmt) (cs:List S),XG call G k X sc N->gN G n sc N mt st=some cs->jd call X st cs
theorem qMY (h:gU sc N tg=some t) (h2:nC t=true):eX sc N tg=some t:=by
 unfold gU at h
 cases ht:eX sc N tg with
 | some t'=>rw [ht] at h;exact h
 | none =>
  rw [ht] at h
  cases tg with
  | Tuple es kk pos =>
   have h:(eg (gX sc N) es).map Tg.many=some t:=h
   cases hx:eg (gX sc N) es with
   | none=>rw [hx] at h;cases h
   | some is=>rw [hx] at h;cases h;cases h2
  | _=>cases h
theorem qJ3 (h:gU sc N tg=some t):(∃y q,tg=.Name y q)∨∃es kk q,tg=.Tuple es kk q:=by
 unfold gU at h
 cases ht:eX sc N tg with
 | some t' =>
  cases tg with
  | Name y q=>exact .inl ⟨y,q,rfl⟩
  | Tuple es kk q=>exact .inr ⟨es,kk,q,rfl⟩
  | _=>cases ht
 | none =>
  rw [ht] at h
  cases tg with
  | Name y q=>exact .inl ⟨y,q,rfl⟩
  | Tuple es kk q=>exact .inr ⟨es,kk,q,rfl⟩
  | _=>cases h
theorem Bc {e:Expr}{x m:Str}{p2:Pos}(h:qw e=some (x,m,p2)):∃p,e=.Attribute (.Name x p) m p2:=by
 unfold qw at h
 split at h
 ·cases h;exact⟨_,rfl⟩
 ·cases h
theorem Bo {e:Expr}{x m:Str}{p2 p3:Pos}(h:p8 e=some (x,m,p2,p3)):∃p,e=.Call (.Attribute (.Name x p) m p2) [] [] p3:=by
 unfold p8 at h
 split at h
 ·obtain⟨⟨a,b,c⟩,e1,e2⟩:=yae.mp h
  obtain⟨p,rfl⟩:=Bc e1
  cases e2
  exact⟨_,rfl⟩
 ·cases h
theorem qN2 {e:Expr}{x m:Str}{p2 p3:Pos}{k:Int}(h:tQ e=some (x,m,p2,p3,k)):∃pl jj pk ps,e=.Subscript (.Call (.Attribute (.Name x pl) m p2) [] [] p3) (.Constant (.int k) jj pk) ps:=by
 unfold tQ at h
 split at h
 ·obtain⟨⟨a,b,c,d⟩,e1,e2⟩:=yae.mp h
  obtain⟨p,rfl⟩:=Bo e1
  cases e2
  exact⟨_,_,_,_,rfl⟩
 ·cases h
theorem Cr {e:Expr}{x:Str}(h:qL e=some x):∃p,e=.Name x p:=by
 unfold qL at h
 split at h
 ·cases h;exact⟨_,rfl⟩
 ·cases h
theorem CS (hG:∀x∈du,G.defs.lookup x=none) (g:XG call G k X sc N) {mt:List Nat}{x:Str}{e:Expr}{cs:List S}{p pos:Pos}(h:qz G n sc N mt x e=some cs):fw call X (.Assign [.Name x p] e pos) cs:=by
 unfold qz at h
 split at h
 ·rename_i hx
  obtain⟨i,e1,e2⟩:=ak h
  split at e2
  ·cases e2
  ·rename_i h0
   obtain⟨c,e3,e4⟩:=ak e2
   cases e4
   exact ik (qNv hG g (λz y=>h0 (by rw [z,y];rfl)) e3 hx e1)
 ·cases h
theorem qNj (hG:∀x∈du,G.defs.lookup x=none) (B:AllS call G k n):AllS call G k (n+1):=by
 have A:=nH (call:=call) (k:=k) hG n
 constructor
 ·intro X sc N mt st cs g h
  unfold cS at h
  split at h
  ·rename_i tg e pos
   unfold D1 at h
   split at h
   ·rename_i x m p2 p3 hp
    obtain⟨p,rfl⟩:=Bo hp
    split at h
    ·rename_i hm
     rw [aY] at hm
     obtain⟨t,e1,e2⟩:=ak h
     obtain⟨i,e3,e4⟩:=ak e2
     cases e4
     have hk:=qJ3 e1
     rcases hk with ⟨y,q,rfl⟩|⟨es,kk,q,rfl⟩
     ·exact BX g (by simpa using hm.1) hm.2 e1 e3 rfl rfl rfl
     ·exact BX g (by simpa using hm.1) hm.2 e1 e3 rfl rfl rfl
    ·obtain⟨y,e1,h⟩:=ak h
     obtain⟨q,rfl⟩:=Cr e1
     exact CS hG g h
   ·obtain⟨x,e1,h2⟩:=ak h
    clear h
    obtain⟨q,rfl⟩:=Cr e1
    split at h2
    ·rename_i l m p2 p3 kk hp
     obtain⟨pl,jj,pk,ps,rfl⟩:=qN2 hp
     split at h2
     ·rename_i hm
      simp only [aY] at hm
      obtain⟨j,e1,e2⟩:=ak h2
      obtain⟨i,e3,e4⟩:=ak e2
      cases e4
      exact qKq g (by simpa using hm.1.1) hm.1.2 hm.2 e1 e3
     ·cases h2
    ·exact CS hG g h2
  ·rename_i f e p3 pos
   split at h
   ·rename_i x m p2 hp
    obtain⟨p,rfl⟩:=Bc hp
    split at h
    ·rename_i hm
     rw [aY] at hm
     obtain⟨i,e1,e2⟩:=ak h
     obtain⟨c,e3,e4⟩:=ak e2
     cases e4
     exact ik (qNL A g (by simpa using hm.1) hm.2 e1 e3)
    ·split at h
     ·rename_i hm
      rw [aY] at hm
      obtain⟨i,e1,e2⟩:=ak h
      obtain⟨c,e3,e4⟩:=ak e2
      cases e4
      exact ik (qNH A g (by simpa using hm.1) hm.2 e1 e3)
     ·cases h
   ·cases h
  ·rename_i t body pos
   obtain⟨c,e1,e2⟩:=ak h
   obtain⟨cb,e3,e4⟩:=ak e2
   cases e4
   exact ik (qHP A g e1 (B.s X sc N mt body cb g e3))
  ·rename_i e pos
   obtain⟨c,e1,e2⟩:=ak h
   cases e2
   exact ik (qNz hG g e1)
  ·rename_i t a b pos
   obtain⟨c,e1,e2⟩:=ak h
   obtain⟨ca,e3,e4⟩:=ak e2
   obtain⟨cb,e5,e6⟩:=ak e4
   cases e6
   exact ik (qP6 A g e1 (B.s X sc N mt a ca g e3) (B.s X sc N mt b cb g e5))
  ·rename_i tg it body pos
   obtain⟨t,e1,e2⟩:=ak h
   obtain⟨cb,e3,e4⟩:=ak e2
   have hb:=B.s X sc N mt body cb g e3
   have hsr:=yx (sc:=sc) it
   cases hq:jV sc it with
   | seq s =>
    rw [hq] at e4 hsr
    obtain⟨x,q1,q2⟩:=ak e4
    cases q2
    cases hsr
    refine ik (ro g e1 (B1 A g q1) (uM q1 X.env) hb fun Z o hv=>?_)
    rw [Ck] at hv
    obtain⟨r,r1,r2⟩:=ak hv
    obtain⟨its,r3,r4⟩:=ak r2
    exact⟨its,by simp only [r1];exact r3,r4⟩
   | rng rs =>
    rw [hq] at e4 hsr
    obtain⟨xs,q1,q2⟩:=ak e4
    cases q2
    cases hsr with
    | rng f p as pos2 hg hf hl =>
     refine ik (ro g e1 (BZ (p:=p) (pos:=pos2) A g hG hg hf hl q1) (λ_=>rfl) hb fun Z o hv=>?_)
     rw [Cj] at hv
     obtain⟨r,r1,r2⟩:=ak hv
     obtain⟨its,r3,r4⟩:=ak r2
     exact⟨its,by simp only [r1];exact r3,r4⟩
   | zip a b =>
    rw [hq] at e4 hsr
    simp only at e4
    split at e4
    ·rename_i h2
     obtain⟨x,q1,q2⟩:=ak e4
     obtain⟨y,q3,q4⟩:=ak q2
     cases q4
     obtain⟨es,kk,tp,rfl⟩:=uR (qMY e1 h2) h2
     cases hsr with
     | zip f p a b pos2 hg hf =>
      refine ik (ro g e1 (B2 (p:=p) (pos:=pos2) A g hG hg hf q1 q3) (λ_=>rfl) hb fun Z o hv=>?_)
      rw [Co] at hv
      obtain⟨z,r1,r2⟩:=ak hv
      obtain⟨z2,r3,r4⟩:=ak r2
      obtain⟨xs,r5,r6⟩:=ak r4
      obtain⟨ys,r7,r8⟩:=ak r6
      exact⟨cF xs ys,by simp only [r1,r3,r5,r7,fj],r8⟩
    ·cases e4
   | enm a=>rw [hq] at e4;cases e4
   | rev rs =>
    rw [hq] at e4 hsr
    obtain⟨xs,q1,q2⟩:=ak e4
    cases q2
    cases hsr with
    | rev f f' p p' a pos2 pos3 hg hf hg' hf' =>
     refine ik (ro g e1 (qNp (p:=p) (pos:=pos2) (p':=p') (pos':=pos3) A g hG hg hf hg' hf' q1) (λ_=>rfl) hb fun Z o hv=>?_)
     rw [Cn] at hv
     obtain⟨r,r1,r2⟩:=ak hv
     obtain⟨its,r3,r4⟩:=ak r2
     exact⟨its,by simp only [r1];exact r3,r4⟩
  ·cases h
 ·intro X sc N mt st cs g h
  unfold gN at h
  split at h
  ·cases h;exact qNB
  ·rename_i a r
   obtain⟨x,e1,e2⟩:=ak h
   obtain⟨y,e3,e4⟩:=ak e2
   cases e4
   exact qKu (B.o X sc N mt a x g e1) (B.s X sc N mt r y g e3)
theorem qNi:AllS call G k 0:=by
 constructor
 ·intro X sc N mt st cs _ h;cases h
 ·intro X sc N mt st cs _ h;cases h
theorem Av (hG:∀x∈du,G.defs.lookup x=none):∀n,AllS call G k n
 | 0=>qNi
 | n+1=>qNj hG (Av hG n)
end
structure FunD (K:Qb) (x qual:Str) (st:Stmt) (f:Addr) (fd:FuncData):Prop where
 ex:∃(oc:Value) (od:Option Addr) (dV kV doc pm:Value) (an:Option Addr) (cdv ct:Value) (osl:Array (Option Value)),
  fd=PySem.W.fnOf x qual (gB st) (dC st) (aL st) dV kV doc pm an cdv ct/\K.lookup f=some ⟨oc,od,.func fd,osl⟩/\PySem.W.codeIn K cdv qual=true
 kp:PySem.W.keepIn K (.ref f)=true
theorem rk {K:Qb}{x qual:Str}{st:Stmt}{f:Addr}{fd:FuncData}(F:Fun K x qual st f fd):FunD K x qual st f fd:=by
 obtain⟨⟨oc,od,kV,doc,pm,an,cdv,ct,osl,h1,h2,h3⟩,kp⟩:=F
 exact⟨⟨oc,od,.none,kV,doc,pm,an,cdv,ct,osl,h1,h2,h3⟩,kp⟩
theorem FunD.ok {w:World}{K:Qb}{mg:Str->Option Value}{base:Heap}{x qual:Str}{st:Stmt}{f:Addr}{fd:FuncData}{N ps:List Str}{k:Nat}{sp:Sp}(F:FunD K x qual st f fd) (S:FnScope N ps (aL st)) (len:∀vs H Q E,sp vs H Q E->vs.length=ps.length)
  (body:∀(cdv:Value) (A:Around) (outer:List Env) (s:Shared) (H:Hp) (vs:List V) (Q:VK) (E:XK),Room k (A.deeper (envOfC qual (aL st) s.heap.objs.size f cdv))->sp vs H Q E ->
   ∃t,PSs (jb fg P w K mg base N qual (aL st) f cdv A outer s H E).nox (dC st) t/\t { nx:=λ_ H'=>Q .non H',rt:=Q } (start N vs) H):FnOk P w K mg base fg (k+1) f fd ps sp:=by
 obtain⟨oc,od,dV,kV,doc,pm,an,cdv,ct,osl,rfl,lk,hcd⟩:=F.ex
 refine qTI lk hcd S len λA outer s H vs Q E hr h=>?_
 obtain⟨t,h1,h2⟩:=body cdv A outer s H vs Q E hr h
 exact⟨t,h1.nox,h2⟩
structure DefIn (K:Qb) (mg:Str->Option Value) (G:Gx) (tab:List Fd) (fuel:Nat) (x:Str) (i:Nat):Prop where
 ex:∃(a:Addr) (fdt:FuncData) (st:Stmt) (ps:List Str) (fd:Fd),mg x=some (.ref a)/\FunD K x x st a fdt/\Binds K fdt ps []/\FnScope (cK (aL st)) ps (aL st) /\
  gN G fuel (aL st) (cK (aL st)) (iK fuel (cK (aL st)) (dC st)) (dC st)=some fd.body/\tab[i]?=some fd/\fd.np=ps.length/\fd.ns=(cK (aL st)).length
def qE (K:Qb) (C:Addr) (ns:List Str):Prop:=(∃(fi:Addr) (fdi:FuncData) (sti:Stmt) (psi:List Str) (qi:Str),Mk K C fi/\FunD K "__init__" qi sti fi fdi/\Binds K fdi psi []/\FnScope (cK (aL sti)) psi (aL sti) /\
  ji (aL sti) (cK (aL sti)) 0 ns (dC sti)=true/\psi.length=ns.length+1/\ns.length<1000)∨(ns=[]/\Mk0 K C)
structure MthIn (K:Qb) (mg:Str->Option Value) (G:Gx) (tab:List Fd) (fuel:Nat) (c m:Str) (i:Nat) (C:Addr) (ns:List Str):Prop where
 ex:∃(fm:Addr) (fdm:FuncData) (stm:Stmt) (psm:List Str) (qm:Str) (fd:Fd),mg c=some (.ref C)/\qE K C ns/\Cls K C/\(∀f∈ns,NoAttr K C f)/\Meth K C m fm/\FunD K m qm stm fm fdm/\Binds K fdm psm []/\FnScope (cK (aL stm)) psm (aL stm) /\
  gN G fuel (aL stm) (cK (aL stm)) (iK fuel (cK (aL stm)) (dC stm)) (dC stm)=some fd.body/\tab[i]?=some fd/\fd.np=psm.length/\fd.ns=(cK (aL stm)).length/\m∉ns/\ns.Nodup
theorem CF (ht:tab[i]?=some fd) (h:aG tab n i ds=some r):ds.length=fd.np:=by
 cases n with
 | zero=>cases h
 | succ n =>
  rw [vh ht] at h
  unfold lq at h
  split at h
  ·assumption
  ·cases h
section
variable {P:Program}{w:World}{K:Qb}{mg:Str->Option Value}{base:Heap}{G:Gx}{tab:List Fd}{fuel:Nat}
theorem qY:∀{b:Bool}{ds:List D}{m i:Nat}{r:R},ax (aQ b ds++List.replicate m none) i=some r->∃d,ds[i]?=some d/\r=(jS d,d)
 | b,[],m,i,r,h=>by
  unfold ax at h
  rw [show aQ b []=[] by cases b<;>rfl,sP,k6] at h
  split at h<;>cases h
 | b,d::ds,m,i,r,h=>by
  cases i with
  | zero =>
   refine⟨d,rfl,?_⟩
   cases b<;>cases d<;>first|(cases h;rfl)|cases h
  | succ i =>
   have:∃b',ax (aQ b' ds++List.replicate m none) i=some r:=by
    cases b<;>cases d<;>first|exact⟨false,h⟩|exact⟨true,h⟩
   obtain⟨b',h'⟩:=this
   obtain⟨d',q1,q2⟩:=qY h'
   exact⟨d',by simpa using q1,q2⟩
theorem uS:∀{ds:List D}{m i:Nat}{d:D},ax (aQ true ds++List.replicate m none) i=some (true,d)->False
 | [],m,i,d,h=>by
  unfold ax at h
  rw [show aQ true []=[] from rfl,sP,k6] at h
  split at h<;>cases h
 | x::ds,m,i,d,h=>by
  cases i with
  | zero=>cases x<;>cases h
  | succ i=>exact uS (ds:=ds) (m:=m) (i:=i) (d:=d) (by cases x<;>exact h)
theorem A8:∀{ds:List D}{m i j:Nat}{d e:D},ax (aQ false ds++List.replicate m none) i=some (true,d)->ax (aQ false ds++List.replicate m none) j=some (true,e)->i=j
 | [],m,i,j,d,e,h,h'=>by
  unfold ax at h
  rw [show aQ false []=[] from rfl,sP,k6] at h
  split at h<;>cases h
 | x::ds,m,i,j,d,e,h,h'=>by
  cases hx:jS x with
  | true =>
   cases x with
   | dct m' ks =>
    cases i with
    | zero =>
     cases j with
     | zero=>rfl
     | succ j=>exact Qn h' (λz=>uS (ds:=ds) (m:=m) (i:=j) z)
    | succ i=>exact Qn h (λz=>uS (ds:=ds) (m:=m) (i:=i) z)
   | _=>cases hx
  | false =>
   have e1:aQ false (x::ds)=some (false,x)::aQ false ds:=by cases x<;>first|rfl|cases hx
   rw [e1] at h h'
   cases i with
   | zero=>cases h
   | succ i =>
    cases j with
    | zero=>cases h'
    | succ j=>rw [A8 (ds:=ds) (m:=m) (i:=i) (j:=j) h h']
theorem A7:∀(b:Bool) (ds:List D),(aQ b ds).length=ds.length
 | b,[]=>by cases b<;>rfl
 | b,d::ds=>by cases b<;>cases d<;>(show (aQ _ ds).length+1=_;rw [A7];rfl)
theorem qKf (dom:∀a,H a=none->¬F a) (h:RGs K H F ds vs) (hm:m=N.length - vs.length):SR K ⟨H,none⟩ H F (aQ false ds++List.replicate m none) (L2.start N vs):=by
 have hl:=RGs.length h
 have at_:∀{i:Nat} {v:V},vs[i]?=some v->(L2.start N vs)[i]?=some (some v):=λ{i v} q1=>by
  unfold L2.start
  obtain⟨hi,_⟩:=yal.mp q1
  rw [m8 (by simpa using hi),gk,q1]
  rfl
 refine⟨by simp [L2.start,hl,hm,A7],Same.refl H,dom,λi d e=>?_,λi d e hd=>?_,λi j d e h1 h2 _=>A8 h1 h2,λi m' ks e=>?_,λ_ _ z=>nomatch z⟩
 ·obtain⟨d',e1,e2⟩:=qY e
  have hd:jS d'=false:=(jI e2).1.symm
  have hd2:d=d':=(jI e2).2
  subst hd2
  obtain⟨v,q1,q2⟩:=RGs.get h e1
  refine⟨v,at_ q1,q2.elim (λz=>z) λ⟨a,ks,z,_⟩=>?_⟩
  subst z
  cases hd
 ·obtain⟨d',e1,e2⟩:=qY e
  have hd1:true=jS d':=(jI e2).1
  have hd2:d=d':=(jI e2).2
  subst hd2
  rw [hd] at hd1
  cases hd1
 ·obtain⟨d',e1,e2⟩:=qY e
  have hd2:D.dct m' ks=d':=(jI e2).2
  subst hd2
  obtain⟨v,q1,q2⟩:=RGs.get h e1
  rcases q2 with z|⟨a,ks',z1,z2,z3,z4⟩
  ·exact False.elim z
  ·cases z1
   subst z2
   exact⟨a,at_ q1,z3,z4,λz=>nomatch z⟩
theorem qOK:FnOk P w K mg base fg 2 a fdt ps (dh K ps.length (aG tab 0 i)):=
 ⟨λ_ _ _ _ h=>h.1,λA outer s H args us vs Q E _ _ _ _ h=>by obtain⟨_,F,ds,r,_,_,z,_⟩:=h;cases z⟩
theorem qOG (hbl:∀x∈du,mg x=none) (Fn:FunD K "__init__" qi sti fi fdi) (Sc:FnScope (cK (aL sti)) psi (aL sti)) (hi:ji (aL sti) (cK (aL sti)) 0 ns (dC sti)=true) (hl:psi.length=ns.length+1) (hz:ns.length<1000) :
  FnOk P w K mg base fg 1 fi fdi psi (tI K ns):=by
 refine Fn.ok (k:=0) Sc (λvs H Q E h=>?_) (λcdv A outer s H vs Q E hr h=>?_)
 ·obtain⟨x,C,dx,ws,rfl,h1,_⟩:=h
  rw [hl,fW,h1]
 ·obtain⟨x,C,dx,ws,rfl,h1,h2,h3,h4,hq⟩:=h
  have g:XG (λ_ _=>none) ⟨[],[],[],[],[],[]⟩ 0 (jb fg P w K mg base (cK (aL sti)) qi (aL sti) fi cdv A outer s H E).nox (aL sti) (cK (aL sti)):=by
   refine⟨rfl,Sc.nd,λy h=>?_,λy h=>?_,λy h=>?_,λy h=>?_,rfl,rfl,hr,λy j h=>(nomatch h),λy _ h=>?_,λy i h=>(nomatch h),λu hm=>(nomatch hm),λz=>Qn rfl z⟩
   ·unfold ly at h
    simp only [fC,beq_iff_eq] at h
    rcases h with (h|h)|h
    ·exact .inl h
    ·exact .inr (.inl h)
    ·exact .inr (.inr h)
   ·simp only [fC,beq_iff_eq] at h
    exact⟨h,.inl rfl⟩
   ·unfold bD at h
    rw [beq_iff_eq] at h
    exact h
   ·unfold lh at h
    simp only [fC,beq_iff_eq] at h
    exact h
   ·exact hbl y h
  obtain⟨t,pt,qt⟩:=CY g ns 0 (dC sti) hi
  refine⟨t,pt,qt _ H x C dx [] ws _ rfl (λi w hw=>?_) h1 h2 h3 h4 (by simpa using hz) hq⟩
  obtain⟨hlt,_⟩:=yal.mp hw
  unfold L2.start
  rw [m8 (by simp;omega),gk,show 0+1+i=i+1 by omega,List.getElem?_cons_succ,hw]
  rfl
theorem vS (hT:tab.length<=HX) (hG:∀x∈du,G.defs.lookup x=none) (hb:∀x∈du,mg x=none) (hc:∀x i,G.cons.lookup x=some i->∃t,mg x=some (.int i t)) (hd:∀x i,G.defs.lookup x=some i->DefIn K mg G tab fuel x i) (oA:∀u∈G.meth,MthIn K mg G tab fuel u.c u.m u.i u.kn.c u.kn.ns):∀(n:Nat) (x qn:Str) (i:Nat) (a:Addr) (fdt:FuncData) (st:Stmt) (ps:List Str) (fd:Fd),FunD K x qn st a fdt ->
  FnScope (cK (aL st)) ps (aL st)->gN G fuel (aL st) (cK (aL st)) (iK fuel (cK (aL st)) (dC st)) (dC st)=some fd.body->tab[i]?=some fd->fd.np=ps.length->fd.ns=(cK (aL st)).length ->
  FnOk P w K mg base fg (n+2) a fdt ps (dh K ps.length (aG tab n i))
 | 0,x,qn,i,a,fdt,st,ps,fd,_,_,_,_,_,_=>qOK
 | n+1,x,qn,i,a,fdt,st,ps,fd,Fn,Sc,hcs,ht,hp,hn=>by
  have gg:∀(cdv:Value) (A:Around) (outer:List Env) (s:Shared) (H:Hp) (E:XK),Room (n+2) (A.deeper (envOfC qn (aL st) s.heap.objs.size a cdv))->XG (aG tab n) G (n+2) (jb fg P w K mg base (cK (aL st)) qn (aL st) a cdv A outer s H E).nox (aL st) (cK (aL st)):=λcdv A outer s H E hr=>by
   refine⟨rfl,Sc.nd,λy h=>?_,λy h=>?_,λy h=>?_,λy h=>?_,rfl,rfl,hr,λy j h=>?_,λy _ h=>hb y h,hc,λu hm=>?_,λ_=>Nat.le_add_left 2 n⟩
   ·unfold ly at h
    simp only [fC,beq_iff_eq] at h
    rcases h with (h|h)|h
    ·exact .inl h
    ·exact .inr (.inl h)
    ·exact .inr (.inr h)
   ·simp only [fC,beq_iff_eq] at h
    exact⟨h,.inl rfl⟩
   ·unfold bD at h
    rw [beq_iff_eq] at h
    exact h
   ·unfold lh at h
    simp only [fC,beq_iff_eq] at h
    exact h
   ·obtain⟨a2,fdt2,st2,ps2,fd2,q1,q2,q3,q4,q5,q6,q7,q8⟩:=(hd y j h).ex
    exact⟨a2,fdt2,ps2,q1,q2.kp,q3,(vS hT hG hb hc hd oA n y y j a2 fdt2 st2 ps2 fd2 q2 q4 q5 q6 q7 q8),λds r hr=>(CF q6 hr).trans q7⟩
   ·obtain⟨fm,fdm,stm,psm,qm,fd2,q1,q2,q3,q4,kA,ow,q12,q13,q14,q15,q16,q17,q18,q19⟩:=(oA u hm).ex
    exact⟨fm,fdm,psm,q1,q2.imp (λ⟨fi,fdi,sti,psi,qi,z1,z2,z3,z4,z5,z6,z7⟩=>⟨fi,fdi,psi,z1,z3,qOG hb z2 z4 z5 z6 z7⟩) id,q3,q4,kA,q12,(vS hT hG hb hc hd oA n u.m qm u.i fm fdm stm psm fd2 ow q13 q14 q15 q16 q17),λds r hr=>(CF q15 hr).trans q16,q18,q19⟩
  refine Fn.ok Sc (λvs H Q E h=>h.1) (λcdv A outer s H vs Q E hr h=>?_)
  obtain⟨hvl,F,ds,r,dom,rds,hcall,hq⟩:=h
  have hlen:=RGs.length rds
  rw [vh ht] at hcall
  unfold lq at hcall
  split at hcall
  ·rename_i hal
   obtain⟨o,e1,e2⟩:=ak hcall
   obtain⟨t,pt,qt⟩:=(Av (call:=aG tab n) (k:=n+2) hG fuel).s _ _ _ _ _ _ (gg cdv A outer s H E hr) hcs
   refine⟨t,pt,qt ⟨H,none⟩ F H F _ _ o _ e1 (qKf dom rds (by rw [hp,hn,hvl])) (Gr.refl dom) ?_⟩
   cases o with
   | nx Z' =>
    cases e2
    exact fun τ' H' F' _ g' _=>hq .non H' F' g' rfl
   | rt r' =>
    cases e2
    exact λv H' F' g' rr=>hq v H' F' g' rr
   | bk _=>cases e2
   | ct _=>cases e2
  ·cases hcall
theorem qQ8 (h:∀ns:List Int,ns.length<=63->(∀i∈ns,2 * i.natAbs<fH)->aG tab n i [.lst (ns.map .int)]=some (false,.bl true)) (H:Hp) (a:Addr) (ns:List Int) (hl:ns.length<=63) (hw:∀i∈ns,2 * i.natAbs<fH) (hS:SqL K H a (ns.map V.int)) (E:XK):dh K 1 (aG tab n i) [.ref a] H (λv _=>v=.bl true) E:=by
 have fin:∀v H' F',Gr H (λ_=>False) H' F'∨True->RR K H H' F' (false,.bl true) v->v=.bl true:=λv H' F' _ rr=>rr
 rcases hS with hS|hS
 ·refine⟨rfl,λb=>b=a,[.lst (ns.map .int)],(false,.bl true),λb e z=>?_,⟨.ref a,[],rfl,.inl ⟨a,ns.map V.int,rfl,.inl ⟨rfl,hS⟩,RDs.of_ints ns⟩,rfl⟩,h ns hl hw,λv H' F' _ rr=>rr⟩
  subst z
  rcases hS with q|⟨o,q⟩<;>(rw [e] at q;cases q)
 ·exact⟨rfl,λ_=>False,[.lst (ns.map .int)],(false,.bl true),λ_ _ z=>z,⟨.ref a,[],rfl,.inl ⟨a,ns.map V.int,rfl,.inr hS,RDs.of_ints ns⟩,rfl⟩,h ns hl hw,λv H' F' _ rr=>rr⟩
end
theorem AN:∀(ns:List Int) (i:Int),i∈ns->PySem.W.WData.weight (.int i)+1<=PySem.W.WData.weightAll (ns.map PySem.W.WData.int)
 | [],i,h=>nomatch h
 | n::ns,i,h=>by
  rw [gQ,PySem.W.WData.weightAll]
  rcases yag.mp h with rfl|h
  ·omega
  ·have:=AN ns i h
   omega
theorem qLa {ns:List Int}(h:PySem.W.WData.layableAll [.list (ns.map PySem.W.WData.int)]=true) (i:Int) (hi:i∈ns):2 * i.natAbs<fH:=by
 unfold PySem.W.WData.layableAll at h
 rw [ft,aY] at h
 have h1:=h.1
 unfold PySem.W.WData.layable at h1
 rw [aY] at h1
 have h2:PySem.W.WData.weight (.list (ns.map PySem.W.WData.int))<=2^20:=Qp h1.2
 rw [PySem.W.WData.weight] at h2
 have h3:=AN ns i hi
 rw [PySem.W.WData.weight] at h3
 by_cases hz:i=0
 ·subst hz
  exact Nat.pow_pos (by decide)
 ·rw [Qm (by simpa using hz)] at h3
  have h4:i.natAbs<2^(i.natAbs.log2+1):=Nat.lt_log2_self
  have h5:2 * i.natAbs<2^(i.natAbs.log2+2):=by rw [Nat.pow_succ];omega
  exact dy h5 (Nat.pow_le_pow_right (by decide) (by omega))
theorem dw_walk {l:PySem.W.OpenLaw}{q:Program}{loose:List Str}{XP:(Str->Option Value)->Heap->Prop}{YP:World->Heap->Prop}{d:DefRec}{K:Params->Qb}{tab:List Fd}{n i:Nat}(hlaw:∀ns:List Int,ns.length<=63->(∀i∈ns,2 * i.natAbs<fH)->aG tab n i [.lst (ns.map .int)]=some (false,.bl true))
  (hn:l.most=some 63) (hdf:d.params.defaults=[]) (hr:Room (n+2) callerA) (hY:∀(w:World) (h:Heap),YP w h->(K w.params).In h)
  (F:∀(w:World) (mg:Str->Option Value) (fa:Addr) (h:Heap),(K w.params).In h->h.Ns mainGlobals mg->mg d.name=some (.ref fa) ->
   ∃fd:FuncData,(∀(s:Shared) (u:Value),BindsTo s fd ⟨[u],[]⟩ [("script",u)])/\∀base:Heap,(K w.params).In base->base.Ns mainGlobals mg->FnOk l.prog w (K w.params) mg base fg (n+2) fa fd ["script"] (dh (K w.params) 1 (aG tab n i))) :
  PySem.W.WalkO q loose XP YP l.row.toRowW d [] (λf vs=>PySem.call f vs):=by
 intro w t₀ t₁ mg mb g y fa o pm cd doc v₁ v₂ ho hd hc e1 e2 e3 args vals as e4 lay e5 e6 e7
 obtain rfl:v₁=.none:=PySem.W.Dflts.none e1 hdf
 obtain rfl:v₂=.none:=PySem.W.Dflts.noKw e1
 obtain⟨a,vs,ns,rfl,rfl,s1,s2,s3⟩:=Att.script_of hn e4 e6
 have kx:=hY w _ y
 obtain⟨fd,hb,hF⟩:=F w mg fa _ kx g.T.g e2
 refine PySem.W.enter_call (codeAny_mono (L2.law_call kx g.T.g g.T.b g.T.builtins g.T.nolimit e3 s1 s2 (dR s3 (by decide)) hr hF hb (λH _ hS=>qQ8 hlaw H a ns s3 (qLa lay) hS _) λH e s' z=>z) λr s' z=>?_)
 obtain⟨rfl,z2,z3,z4⟩:=z
 exact⟨.inl ⟨.bool true,.bool true,[],rfl,λ_=>rfl,.bool true,Att.post_true l _,λ_=>⟨List.Pairwise.nil,λ_ hm=>(nomatch hm)⟩⟩,z2,z3,z4⟩
end Dw
set_option exponentiation.threshold 6000
namespace Dw.T
open Dw
noncomputable abbrev tx (s:String):D:=.str (Qa s)
noncomputable abbrev kI (n:Int):C:=.k (.int n)
noncomputable abbrev V0:C:=.v 0
noncomputable abbrev V1:C:=.v 1
noncomputable abbrev V2:C:=.v 2
noncomputable abbrev V3:C:=.v 3
noncomputable abbrev V4:C:=.v 4
noncomputable abbrev V5:C:=.v 5
noncomputable abbrev V6:C:=.v 6
noncomputable abbrev V7:C:=.v 7
noncomputable abbrev V8:C:=.v 8
noncomputable abbrev V9:C:=.v 9
noncomputable abbrev iW:C:=.v 10
noncomputable abbrev oK:C:=.v 11
noncomputable abbrev iV:C:=.v 12
noncomputable abbrev mM:C:=.v 13
noncomputable abbrev V14:C:=.v 14
noncomputable abbrev kL:C:=.v 15
noncomputable abbrev xO:C:=.v 16
noncomputable abbrev Eg:C:=.v 17
noncomputable abbrev Ef:C:=.v 18
noncomputable abbrev TBv:List (Nat×Nat):=[(387,81),(427,83),(467,85),(507,87),(547,89),(587,91),(627,93),(667,95),(707,97),(747,99),(787,101),(827,103)]
noncomputable abbrev TBs:List (Nat×Nat):=[(387,80),(427,82),(467,84),(507,86),(547,88),(587,90),(627,92),(667,94),(707,96),(747,98),(787,100),(827,102)]
abbrev xZ:List S:=[.set 1 false (.call 20 [V1,V2])]
abbrev xY:List S:=[.set 1 false (.bin .add V1 (.call 63 [V2]))]
abbrev x9:List S:=[.set 4 false (.call 39 [V5,V6,V4]),.set 4 false (.call 39 [V6,V5,V4])]
abbrev xX:List S:=[.ite (.and (.cmp .eq V5 (.k (tx "open"))) (.call 22 [V6])) [.ext 4 (.call 49 [V6,V1,V2,V3])] []]
abbrev xV:List S:=[.forV (.one 13) [(.bi .len [(.ix iW (kI 1))])] [.app 8 (.tup [(.bin .add V9 (.tup [mM])),(.ix (.ix iW (kI 1)) mM)])]]
abbrev x8:List S:=[.set 5 false (.call 58 [V4,V1,V2]),.ite (.cmp .notin (.ix V5 (kI 0)) (.compS (.ix V0 (kI 0)) 1 [] (.one 0) V3)) [.app 3 V5] []]
abbrev mO:List S:=[.set 18 false (.call 53 [(.call 62 [V5]),V9,oK,iW,V8,(.bi .tuple [Eg]),V14]),.ite (.or (.not (.isi Ef .bool)) (.and Ef (.cmp .ne Eg iV))) [.ret (.k (.bl false))] []]
abbrev x5:List S:=[.set 4 false (.bi .max [(kI 0),(.bin .sub (.ix (.ix V0 V3) (kI 0)) (.ix (.ix V1 V3) (kI 1))),(.bin .sub (.ix (.ix V1 V3) (kI 0)) (.ix (.ix V0 V3) (kI 1)))]),.set 2 false (.bin .add V2 (.bin .mul V4 V4))]
abbrev x6:List S:=[.set 5 false (.bin .sub (.call 55 [V0,(.bin .add (kI 40) (.bin .mul (kI 2) V4)),(.bin .add (.bin .mul (kI 44) (.ix V2 (kI 0))) (kI 1))]) (.bin .mul (kI 22) (.ix V2 (kI 0)))),.app 3 (.tup [V5,(.bin .add V5 (.call 55 [V0,(.bin .add (kI 41) (.bin .mul (kI 2) V4)),(.bin .add (.bin .mul (kI 24) (.ix V2 (kI 0))) (kI 1))]))])]
abbrev sg:List S:=[.set 4 false (.bin .add (kI 2) (.call 55 [V1,(.bin .add (kI 260) V5),(.bin .sub V2 (kI 1))])),.set 6 false (.call 55 [V1,(.bin .add (kI 360) V5),(kI 2)]),.set 3 true (.compR (.call 60 [(.sl V2 (some V0) (some (.bin .add V0 V3))),V1]) 1 [6,3,4] (.one 0) [(kI 0),(.bi .len [V3]),V4]),.set 5 false (.bin .add V5 (kI 1))]
abbrev zbK:List S:=[.set 4 false (.bin .add (kI 1) (.call 55 [V1,(.bin .add (kI 60) (.bi .len [V3])),V2])),.app 3 (.tup [(.k (tx "leaf")),(.bi .tuple [(.sl V0 none (some V4))])]),.set 0 false (.sl V0 (some V4) none),.ite (.cmp .eq (.call 55 [V1,(.bin .add (kI 160) (.bi .len [V3])),(kI 9)]) (kI 1)) [.app 3 (.tup [(.k (tx "leaf")),(.tup [])])] []]
abbrev zbI:List S:=[.ite (.or (.cmp .eq (.bi .len [V2]) (kI 0)) (.cmp .ne (.ix (.ix V2 (.neg (kI 1))) (kI 0)) V4)) [.ret (.k .non)] [],.popX 6 2 1,.app 3 (.tup [V5,V6]),.ite (.and (.cmp .eq V5 (.k (tx "open"))) (.not (.call 22 [V6]))) [.set 7 false (.compE (.tup [(.bin .add V2 (.tup [V0])),V1]) 2 [4] (.two 0 1) (.call 24 [V6])),.ext 2 (.revL V7)] []]
abbrev zbD:List S:=[.set 5 false (.call 55 [V4,(kI 58),(kI 5)]),.ite (.cmp .lt V5 (kI 2)) [.set 3 false (.tup [(.ix (.lst [(.k (tx "both")),(.k (tx "either"))]) V5),V3,(.call 69 [V4,V1,V2])])] [.ite (.cmp .lt V5 (kI 4)) [.set 3 false (.tup [(.ix (.lst [(.k (tx "both")),(.k (tx "either"))]) (.bin .sub V5 (kI 2))),(.tup [(.k (tx "unless")),(.call 69 [V4,V1,V2])]),V3])] [.set 3 false (.tup [(.k (tx "unless")),V3])]]]
abbrev zbN:List S:=[.pop (.two 9 10) 8,.set 11 false (.call 75 [(.call 63 [iW]),V1,V2,V3]),.set 12 false (.call 76 [oK,V4,V5,(.bi .len [V6])]),.app 6 (.tup [V9,iV]),.ite (.and (.cmp .eq iV (.k (tx "open"))) (.cmp .eq (.ix iW (kI 0)) (.k (tx "leaf")))) [.set 7 false (.bin .add V7 oK)] [],.ite (.and (.cmp .eq iV (.k (tx "open"))) (.cmp .eq (.ix iW (kI 0)) (.k (tx "fork")))) xV []]
noncomputable def qRz:Fd:=⟨0,0,[]⟩
def f_side_at:Fd:=⟨2,2,[.ret (.tup [(.bin .add (.ix V0 (kI 0)) (.bin .mul (.ix V0 (kI 2)) V1)),(.bin .add (.ix V0 (kI 1)) (.bin .mul (.ix V0 (kI 3)) V1))])]⟩
def f_side_joined:Fd:=⟨2,2,[.ret (.tup [(.bi .min [(.ix V0 (kI 0)),(.ix V1 (kI 0))]),(.bi .max [(.ix V0 (kI 1)),(.ix V1 (kI 1))]),(.bi .min [(.ix V0 (kI 2)),(.ix V1 (kI 2))]),(.bi .max [(.ix V0 (kI 3)),(.ix V1 (kI 3))])])]⟩
def f_side_narrowed:Fd:=⟨2,2,[.ret (.tup [(.bi .max [(.ix V0 (kI 0)),(.ix V1 (kI 0))]),(.bi .min [(.ix V0 (kI 1)),(.ix V1 (kI 1))]),(.bi .max [(.ix V0 (kI 2)),(.ix V1 (kI 2))]),(.bi .min [(.ix V0 (kI 3)),(.ix V1 (kI 3))])])]⟩
def f_still_swath:Fd:=⟨1,1,[.ret (.bi .tuple [(.compS (.tup [(.ix V0 (kI 0)),(.ix V0 (kI 1)),(kI 0),(kI 0)]) 1 [] (.one 0) V0)])]⟩
def f_frame_at:Fd:=⟨2,2,[.ret (.bi .tuple [(.compS (.call 1 [V0,V1]) 1 [1] (.one 0) V0)])]⟩
def f_frames_joined:Fd:=⟨2,2,[.ret (.bi .tuple [(.compZ (.call 2 [V0,V1]) 2 [] (.two 0 1) V0 V1)])]⟩
def f_frames_narrowed:Fd:=⟨2,2,[.ret (.bi .tuple [(.compZ (.call 3 [V0,V1]) 2 [] (.two 0 1) V0 V1)])]⟩
def DQ:Fd:=⟨1,1,[.ret (.ix V0 (kI 0))]⟩
def qEe:Fd:=⟨1,1,[.ret (.ix V0 (kI 1))]⟩
def qEf:Fd:=⟨1,1,[.ret (.ix V0 (kI 2))]⟩
def qEd:Fd:=⟨1,1,[.ret (.ix V0 (kI 3))]⟩
def f_thing_box:Fd:=⟨2,2,[.ret (.call 5 [(.call 9 [V0]),V1])]⟩
def qE2:Fd:=⟨1,1,[.ret (.ix V0 (kI 0))]⟩
def qE0:Fd:=⟨1,1,[.ret (.ix V0 (kI 1))]⟩
def qFF:Fd:=⟨1,1,[.ret (.ix V0 (kI 2))]⟩
def qE1:Fd:=⟨1,1,[.ret (.ix V0 (kI 3))]⟩
def qEZ:Fd:=⟨1,1,[.ret (.ix V0 (kI 5))]⟩
def Dl:Fd:=⟨1,1,[.ret (.ix V0 (kI 6))]⟩
def f_thing_told:Fd:=⟨1,4,[.set 1 false (.call 9 [V0]),.set 2 false (.call 10 [V0]),.set 3 false (.call 11 [V0]),.ret (.tup [V1,V1,V2,V2,(kI 1),V3,V3,V3])]⟩
def f_told_poured:Fd:=⟨2,2,[.ite (.isC false V0 .non) [.ret V1] [],.ite (.isC false V1 .non) [.ret V0] [],.ret (.tup [(.call 6 [(.ix V0 (kI 0)),(.ix V1 (kI 0))]),(.call 7 [(.ix V0 (kI 1)),(.ix V1 (kI 1))]),(.bin .bor (.ix V0 (kI 2)) (.ix V1 (kI 2))),(.bin .band (.ix V0 (kI 3)) (.ix V1 (kI 3))),(.bin .add (.ix V0 (kI 4)) (.ix V1 (kI 4))),(.bi .min [(.ix V0 (kI 5)),(.ix V1 (kI 5))]),(.bi .max [(.ix V0 (kI 6)),(.ix V1 (kI 6))]),(.bin .add (.ix V0 (kI 7)) (.ix V1 (kI 7)))])]⟩
def f_tolds_poured:Fd:=⟨1,3,[.set 1 false (.k .non),.forS (.one 2) V0 xZ,.ret V1]⟩
def f_is_leaf:Fd:=⟨1,1,[.ret (.cmp .eq (.ix V0 (kI 0)) (.k (tx "leaf")))]⟩
def f_page_told:Fd:=⟨1,1,[.ret (.ix V0 (kI 1))]⟩
def f_page_parts:Fd:=⟨1,1,[.ret (.ix V0 (kI 2))]⟩
def f_things_tolds:Fd:=⟨1,1,[.ret (.bi .tuple [(.compS (.call 19 [V0]) 1 [] (.one 0) V0)])]⟩
def f_pages_tolds:Fd:=⟨1,1,[.ret (.bi .tuple [(.compS (.call 23 [V0]) 1 [] (.one 0) V0)])]⟩
def f_make_leaf:Fd:=⟨1,1,[.ret (.tup [(.k (tx "leaf")),(.call 21 [(.call 25 [V0])]),V0])]⟩
def f_make_fork:Fd:=⟨1,1,[.ret (.tup [(.k (tx "fork")),(.call 21 [(.call 26 [V0])]),V0])]⟩
def f_suiting_in:Fd:=⟨3,3,[.ret (.bi .tuple [(.compF V0 (.mc V2 (Qa "suits") TBs [V0,V1]) 1 [2,1] (.one 0) V0)])]⟩
def f_sides_meet:Fd:=⟨2,2,[.ret (.and (.cmp .le (.ix V0 (kI 0)) (.ix V1 (kI 1))) (.cmp .le (.ix V1 (kI 0)) (.ix V0 (kI 1))))]⟩
def f_side_inside:Fd:=⟨2,2,[.ret (.and (.cmp .ge (.ix V0 (kI 0)) (.ix V1 (kI 0))) (.cmp .le (.ix V0 (kI 1)) (.ix V1 (kI 1))))]⟩
def f_side_gap:Fd:=⟨2,2,[.ret (.bi .max [(kI 0),(.bin .sub (.ix V0 (kI 0)) (.ix V1 (kI 1))),(.bin .sub (.ix V1 (kI 0)) (.ix V0 (kI 1)))])]⟩
def f_boxes_meet:Fd:=⟨2,2,[.ret (.bi .all [(.compZ (.call 30 [V0,V1]) 2 [] (.two 0 1) V0 V1)])]⟩
def f_box_inside:Fd:=⟨2,2,[.ret (.bi .all [(.compZ (.call 31 [V0,V1]) 2 [] (.two 0 1) V0 V1)])]⟩
def f_box_gap:Fd:=⟨2,3,[.set 2 false (.compZ (.call 32 [V0,V1]) 2 [] (.two 0 1) V0 V1),.ret (.bi .sum [(.compS (.bin .mul V0 V0) 1 [] (.one 0) V2)])]⟩
def f_pages_of_cut:Fd:=⟨2,8,[.set 2 true (.lst [(.tup [(.tup []),V0])]),.set 3 true (.lst []),.forS (.two 4 5) V1 zbI,.frz [3],.ret (.ifx (.cmp .eq (.bi .len [V2]) (kI 0)) V3 (.k .non))]⟩
def f_is_shut:Fd:=⟨3,3,[.ret (.or (.isC false V0 .non) (.cmp .eq (.mc V1 (Qa "verdict") TBv [V0,V2]) (.k (tx "none"))))]⟩
def f_beats_of:Fd:=⟨4,6,[.ite (.and (.cmp .eq V1 (kI 0)) (.cmp .gt V0 (kI 0))) [.ret (.k .non)] [],.set 4 false V2,.set 5 false V3,.ite (.cmp .gt V1 (kI 0)) [.set 4 false (.bi .max [V2,(.neg (.bin .fdiv (.neg V0) V1))])] [],.ite (.cmp .lt V1 (kI 0)) [.set 5 false (.bi .min [V3,(.bin .fdiv V0 V1)])] [],.ite (.cmp .gt V4 V5) [.ret (.k .non)] [],.ret (.tup [V4,V5])]⟩
def f_beats_below:Fd:=⟨3,3,[.ite (.isC false V2 .non) [.ret (.k .non)] [],.ret (.call 38 [(.bin .sub (.ix V0 (kI 0)) (.ix V1 (kI 1))),(.bin .sub (.ix V1 (kI 3)) (.ix V0 (kI 2))),(.ix V2 (kI 0)),(.ix V2 (kI 1))])]⟩
def f_meeting:Fd:=⟨4,7,[.set 4 false (.tup [V2,V3]),.forZ (.two 5 6) V0 V1 x9,.ret V4]⟩
def f_verdict_from:Fd:=⟨2,2,[.ite V0 [.ret (.k (tx "every"))] [],.ite V1 [.ret (.k (tx "none"))] [],.ret (.k (tx "open"))]⟩
def f_cover_at:Fd:=⟨2,2,[.ret (.call 5 [(.call 13 [V0]),V1])]⟩
def f_heart_at:Fd:=⟨2,2,[.ret (.call 5 [(.call 14 [V0]),V1])]⟩
def f_has_each:Fd:=⟨2,2,[.ret (.cmp .eq (.bin .band V0 V1) V1)]⟩
def f_has_one:Fd:=⟨2,2,[.ret (.cmp .ne (.bin .band V0 V1) (kI 0))]⟩
def f_crosses_box:Fd:=⟨4,4,[.ret (.isC true (.call 40 [V0,(.call 4 [V1]),V2,V3]) .non)]⟩
def qCk:Fd:=⟨1,1,[.ret (.ifx (.isC false V0 .non) (.mk ⟨387,[]⟩ []) V0)]⟩
def f_cover_gap:Fd:=⟨3,3,[.ret (.call 35 [(.call 42 [V0,V2]),V1])]⟩
def f_rows_of_leaf:Fd:=⟨4,5,[.set 4 false (.call 29 [(.call 24 [V0]),V3,V2]),.ret (.compS (.tup [(.call 35 [(.call 12 [V0,V1]),V2]),(.call 8 [V0])]) 1 [2,1] (.one 0) V4)]⟩
def f_is_far:Fd:=⟨5,5,[.ite (.cmp .eq V2 (kI 0)) [.ret (.k (.bl true))] [],.ret (.and (.cmp .eq (.bi .len [V4]) V2) (.cmp .gt (.call 48 [V0,V1,V3]) (.ix (.ix V4 (.neg (kI 1))) (kI 0))))]⟩
def f_near_word_stands:Fd:=⟨7,7,[.ite (.cmp .eq V0 (.k (tx "shut"))) [.ret (.call 37 [V1,V5,V4])] [],.ite (.cmp .eq V0 (.k (tx "far"))) [.ret (.and (.isC true V1 .non) (.call 50 [V1,V2,V3,V4,V6]))] [],.ret (.cmp .eq V0 (.k (tx "open")))]⟩
def f_rows_of_open_leaves:Fd:=⟨4,7,[.set 4 true (.lst []),.forS (.two 5 6) V0 xX,.ret V4]⟩
def f_near_stands:Fd:=⟨7,9,[.set 7 false (.call 47 [V4]),.set 8 false (.call 36 [V0,V6]),.ite (.isC false V8 .non) [.ret (.k (.bl false))] [],.ite (.not (.bi .all [(.compS (.call 51 [V0,(.call 23 [V1]),V4,V5,V3,V2,V6]) 2 [7,3,1,2,5] (.two 0 1) V8)])) [.ret (.k (.bl false))] [],.ret (.cmp .eq V5 (.bi .tuple [(.sl (.bi .sorted [(.call 52 [V8,V1,V3,V7])]) none (some V2))]))]⟩
def f_law_cell_at:Fd:=⟨2,2,[.ite (.cmp .lt V1 (.bi .len [V0])) [.ret (.ix V0 V1)] [],.ret (kI 0)]⟩
def f_law_draw:Fd:=⟨3,5,[.set 3 false (kI 170141183460469231731687303715884105727),.set 4 false (.bin .mod (.bin .mul (.bin .add (.bin .mul V0 (kI 2)) (kI 1)) (.bin .add (.bin .mul (.bin .mul V1 V1) (kI 9176023)) (kI 84127918273645463728191))) V3),.ret (.bin .mod (.bin .fdiv (.bin .mod (.bin .mul V4 (.bin .add V4 (kI 5))) V3) (kI 7)) V2)]⟩
def f_law_scale:Fd:=⟨1,1,[.ret (.ix (.lst [(.tup [(kI 1),(kI 3),(kI 13)]),(.tup [(kI 1),(kI 0),(kI 2)]),(.tup [(.bin .pow (kI 10) (kI 28)),(.bin .pow (kI 10) (kI 14)),(.bin .add (.bin .pow (kI 10) (kI 15)) (kI 1))])]) (.call 55 [V0,(kI 90),(kI 3)]))]⟩
def f_law_side_by:Fd:=⟨3,6,[.set 3 false (.bin .sub (.call 55 [V0,(.bin .add (.bin .mul (kI 5) V1) (kI 1)),(.bin .add (.bin .mul (kI 40) (.ix V2 (kI 0))) (kI 1))]) (.bin .mul (kI 20) (.ix V2 (kI 0)))),.set 4 false (.bin .add V3 (.bin .mul (.call 55 [V0,(.bin .add (.bin .mul (kI 5) V1) (kI 2)),(.bin .add (.bin .mul (kI 6) (.ix V2 (kI 0))) (kI 1))]) (.call 55 [V0,(.bin .add (.bin .mul (kI 5) V1) (kI 3)),(kI 2)]))),.set 5 false (.bin .sub (.call 55 [V0,(.bin .add (.bin .mul (kI 5) V1) (kI 4)),(.bin .add (.bin .mul (kI 2) (.ix V2 (kI 1))) (kI 1))]) (.ix V2 (kI 1))),.ret (.tup [V3,V4,V5,V5])]⟩
def f_law_thing_by:Fd:=⟨3,6,[.set 3 false (.call 55 [V0,(kI 21),(.ix (.lst [(kI 90),(.bin .add (.bin .pow (kI 10) (kI 18)) (kI 1))]) (.call 55 [V0,(kI 22),(kI 2)]))]),.set 4 false (.ix (.lst [(.call 55 [V0,(kI 23),(kI 65536)]),(.call 55 [V0,(kI 23),(kI 8)]),(kI 65535)]) (.call 55 [V0,(kI 24),(kI 3)])),.set 5 false (.ix (.lst [(.bin .sub (.call 55 [V0,(kI 25),(kI 7)]) (kI 3)),(.bin .sub (.call 55 [V0,(kI 26),(.bin .add (.bin .mul (kI 2) (.bin .pow (kI 10) (kI 30))) (kI 1))]) (.bin .pow (kI 10) (kI 30)))]) (.call 55 [V0,(kI 27),(kI 2)])),.ret (.tup [V3,(.bi .tuple [(.compR (.call 57 [V1,V0,V2]) 1 [0,2] (.one 0) [V1])]),V4,V5])]⟩
def f_law_things_by:Fd:=⟨3,6,[.set 3 true (.lst []),.forS (.one 4) V0 x8,.ret V3]⟩
def f_law_fork_of:Fd:=⟨2,2,[.ite (.and (.cmp .eq V1 (kI 1)) (.cmp .eq (.bi .len [V0]) (kI 1))) [.ret (.ix V0 (kI 0))] [],.ret (.tup [(.k (tx "fork")),(.bi .tuple [V0])])]⟩
def f_law_shape_by:Fd:=⟨2,7,[.set 2 false (.ix (.lst [(kI 4),(kI 4),(kI 16)]) (.call 55 [V1,(kI 59),(kI 3)])),.set 3 true (.lst []),.whl (.or (.cmp .ne V0 (.lst [])) (.cmp .eq V3 (.lst []))) zbK,.set 5 false (kI 0),.whl (.cmp .gt (.bi .len [V3]) (kI 1)) sg,.ret (.ix V3 (kI 0))]⟩
def f_law_page_of:Fd:=⟨1,1,[.ite (.cmp .eq (.ix V0 (kI 0)) (.k (tx "leaf"))) [.ret (.call 27 [(.ix V0 (kI 1))])] [],.ret (.call 28 [(.bi .tuple [(.compS (.call 62 [V0]) 1 [] (.one 0) (.ix V0 (kI 1)))])])]⟩
def f_law_under:Fd:=⟨1,3,[.ite (.cmp .eq (.ix V0 (kI 0)) (.k (tx "leaf"))) [.ret (.bi .list [(.ix V0 (kI 1))])] [],.set 1 false (.lst []),.forS (.one 2) (.ix V0 (kI 1)) xY,.ret V1]⟩
def f_law_at:Fd:=⟨2,2,[.ret (.bi .tuple [(.compS (.tup [(.bin .add (.ix V0 (kI 0)) (.bin .mul (.ix V0 (kI 2)) V1)),(.bin .add (.ix V0 (kI 1)) (.bin .mul (.ix V0 (kI 3)) V1))]) 1 [1] (.one 0) V0)])]⟩
def f_law_touch:Fd:=⟨2,3,[.forR (.one 2) [(.bi .len [V0])] [.ite (.or (.cmp .gt (.ix (.ix V0 V2) (kI 0)) (.ix (.ix V1 V2) (kI 1))) (.cmp .gt (.ix (.ix V1 V2) (kI 0)) (.ix (.ix V0 V2) (kI 1)))) [.ret (.k (.bl false))] []],.ret (.k (.bl true))]⟩
def f_law_lies_in:Fd:=⟨2,3,[.forR (.one 2) [(.bi .len [V0])] [.ite (.or (.cmp .lt (.ix (.ix V0 V2) (kI 0)) (.ix (.ix V1 V2) (kI 0))) (.cmp .gt (.ix (.ix V0 V2) (kI 1)) (.ix (.ix V1 V2) (kI 1)))) [.ret (.k (.bl false))] []],.ret (.k (.bl true))]⟩
def f_law_gap_of:Fd:=⟨2,5,[.set 2 false (kI 0),.forR (.one 3) [(.bi .len [V0])] x5,.ret V2]⟩
def f_law_box_by:Fd:=⟨3,6,[.set 3 true (.lst []),.forR (.one 4) [V1] x6,.ret (.bi .tuple [V3])]⟩
def f_law_atom_by:Fd:=⟨3,7,[.set 3 false (.call 55 [V0,(kI 50),(kI 9)]),.set 4 false (.call 68 [V0,V1,V2]),.ite (.cmp .eq V3 (kI 0)) [.ret (.tup [(.k (tx "anything"))])] [],.ite (.cmp .lt V3 (kI 4)) [.ret (.tup [(.ix (.lst [(.k (tx "meets")),(.k (tx "inside")),(.k (tx "holds"))]) (.bin .sub V3 (kI 1))),V4])] [],.ite (.cmp .eq V3 (kI 4)) [.ret (.tup [(.k (tx "near")),V4,(.bin .mul (.call 55 [V0,(kI 51),(kI 201)]) (.bin .pow (.ix V2 (kI 0)) (kI 2)))])] [],.ite (.cmp .eq V3 (kI 5)) [.ret (.tup [(.k (tx "worthy")),(.ix (.lst [(.bin .sub (.call 55 [V0,(kI 25),(kI 7)]) (kI 3)),(.bin .sub (.call 55 [V0,(kI 52),(.bin .add (.bin .mul (kI 2) (.bin .pow (kI 10) (kI 30))) (kI 1))]) (.bin .pow (kI 10) (kI 30)))]) (.bin .mod V0 (kI 2)))])] [],.ite (.cmp .eq V3 (kI 6)) [.set 5 false (.call 55 [V0,(kI 53),(.ix V2 (kI 2))]),.ret (.tup [(.k (tx "crosses")),V4,V5,(.bi .min [(.bin .pow (kI 10) (kI 15)),(.bin .add V5 (.call 55 [V0,(kI 54),(kI 5)]))])])] [],.set 6 false (.ix (.lst [(.call 55 [V0,(kI 55),(kI 8)]),(.call 55 [V0,(kI 56),(kI 65536)]),(kI 0)]) (.call 55 [V0,(kI 57),(kI 3)])),.ret (.tup [(.ix (.lst [(.k (tx "marked")),(.k (tx "touched"))]) (.bin .sub V3 (kI 7))),V6])]⟩
def f_law_plain_by:Fd:=⟨3,6,[.set 3 false (.tup [(.k (tx "anything"))]),.ite (.cmp .ne V0 (.lst [])) [.set 3 false (.call 69 [(.ix V0 (kI 0)),V1,V2])] [],.forS (.one 4) (.sl V0 (some (kI 1)) none) zbD,.ret V3]⟩
def f_law_atom_of:Fd:=⟨1,1,[.ite (.cmp .eq (.ix V0 (kI 0)) (.k (tx "meets"))) [.ret (.mk ⟨427,[(Qa "box")]⟩ [(.ix V0 (kI 1))])] [],.ite (.cmp .eq (.ix V0 (kI 0)) (.k (tx "inside"))) [.ret (.mk ⟨467,[(Qa "box")]⟩ [(.ix V0 (kI 1))])] [],.ite (.cmp .eq (.ix V0 (kI 0)) (.k (tx "holds"))) [.ret (.mk ⟨507,[(Qa "box")]⟩ [(.ix V0 (kI 1))])] [],.ite (.cmp .eq (.ix V0 (kI 0)) (.k (tx "near"))) [.ret (.mk ⟨547,[(Qa "box"),(Qa "far")]⟩ [(.ix V0 (kI 1)),(.ix V0 (kI 2))])] [],.ite (.cmp .eq (.ix V0 (kI 0)) (.k (tx "worthy"))) [.ret (.mk ⟨707,[(Qa "least")]⟩ [(.ix V0 (kI 1))])] [],.ite (.cmp .eq (.ix V0 (kI 0)) (.k (tx "crosses"))) [.ret (.mk ⟨667,[(Qa "box"),(Qa "first"),(Qa "last")]⟩ [(.ix V0 (kI 1)),(.ix V0 (kI 2)),(.ix V0 (kI 3))])] [],.ite (.cmp .eq (.ix V0 (kI 0)) (.k (tx "marked"))) [.ret (.mk ⟨587,[(Qa "marks")]⟩ [(.ix V0 (kI 1))])] [],.ite (.cmp .eq (.ix V0 (kI 0)) (.k (tx "touched"))) [.ret (.mk ⟨627,[(Qa "marks")]⟩ [(.ix V0 (kI 1))])] [],.ret (.mk ⟨387,[]⟩ [])]⟩
def f_law_want_of:Fd:=⟨1,1,[.ite (.cmp .eq (.ix V0 (kI 0)) (.k (tx "both"))) [.ret (.mk ⟨747,[(Qa "one"),(Qa "two")]⟩ [(.call 72 [(.ix V0 (kI 1))]),(.call 72 [(.ix V0 (kI 2))])])] [],.ite (.cmp .eq (.ix V0 (kI 0)) (.k (tx "either"))) [.ret (.mk ⟨787,[(Qa "one"),(Qa "two")]⟩ [(.call 72 [(.ix V0 (kI 1))]),(.call 72 [(.ix V0 (kI 2))])])] [],.ite (.cmp .eq (.ix V0 (kI 0)) (.k (tx "unless"))) [.ret (.mk ⟨827,[(Qa "one")]⟩ [(.call 72 [(.ix V0 (kI 1))])])] [],.ret (.call 71 [V0])]⟩
def f_law_atom_suits:Fd:=⟨3,4,[.set 3 false (.call 64 [(.ix V1 (kI 1)),V2]),.ite (.cmp .eq (.ix V0 (kI 0)) (.k (tx "meets"))) [.ret (.call 65 [V3,(.ix V0 (kI 1))])] [],.ite (.cmp .eq (.ix V0 (kI 0)) (.k (tx "inside"))) [.ret (.call 66 [V3,(.ix V0 (kI 1))])] [],.ite (.cmp .eq (.ix V0 (kI 0)) (.k (tx "holds"))) [.ret (.call 66 [(.ix V0 (kI 1)),V3])] [],.ite (.cmp .eq (.ix V0 (kI 0)) (.k (tx "near"))) [.ret (.cmp .le (.call 67 [V3,(.ix V0 (kI 1))]) (.ix V0 (kI 2)))] [],.ite (.cmp .eq (.ix V0 (kI 0)) (.k (tx "worthy"))) [.ret (.cmp .ge (.ix V1 (kI 3)) (.ix V0 (kI 1)))] [],.ite (.cmp .eq (.ix V0 (kI 0)) (.k (tx "crosses"))) [.ret (.bi .any [(.compR (.call 65 [(.call 64 [(.ix V1 (kI 1)),V0]),(.ix V2 (kI 1))]) 1 [1,0] (.one 0) [(.ix V0 (kI 2)),(.bin .add (.ix V0 (kI 3)) (kI 1))])])] [],.ite (.cmp .eq (.ix V0 (kI 0)) (.k (tx "marked"))) [.ret (.cmp .eq (.bin .band (.ix V1 (kI 2)) (.ix V0 (kI 1))) (.ix V0 (kI 1)))] [],.ite (.cmp .eq (.ix V0 (kI 0)) (.k (tx "touched"))) [.ret (.cmp .ne (.bin .band (.ix V1 (kI 2)) (.ix V0 (kI 1))) (kI 0))] [],.ret (.k (.bl true))]⟩
def f_law_suits:Fd:=⟨3,3,[.ite (.cmp .eq (.ix V0 (kI 0)) (.k (tx "both"))) [.ret (.and (.call 74 [(.ix V0 (kI 1)),V1,V2]) (.call 74 [(.ix V0 (kI 2)),V1,V2]))] [],.ite (.cmp .eq (.ix V0 (kI 0)) (.k (tx "either"))) [.ret (.or (.call 74 [(.ix V0 (kI 1)),V1,V2]) (.call 74 [(.ix V0 (kI 2)),V1,V2]))] [],.ite (.cmp .eq (.ix V0 (kI 0)) (.k (tx "unless"))) [.ret (.not (.call 74 [(.ix V0 (kI 1)),V1,V2]))] [],.ret (.call 73 [V0,V1,V2])]⟩
def f_law_rows_of:Fd:=⟨4,5,[.set 4 false (.compF V0 (.call 74 [V2,V0,V1]) 1 [2,1] (.one 0) V0),.ret (.bi .sorted [(.compS (.tup [(.call 67 [(.call 64 [(.ix V0 (kI 1)),V1]),V2]),(.ix V0 (kI 0))]) 1 [2,3] (.one 0) V4)])]⟩
def f_law_word_by:Fd:=⟨4,5,[.set 4 false (.call 55 [V2,(.bin .add (kI 500) V3),(kI 12)]),.ite (.and (.cmp .lt V4 (kI 6)) (.cmp .eq V0 (.lst []))) [.ret (.k (tx "shut"))] [],.ite (.and (.cmp .lt V4 (kI 7)) (.and (.cmp .ne V0 (.lst [])) (.cmp .notin (.ix V0 (kI 0)) V1))) [.ret (.k (tx "far"))] [],.ret (.ix (.lst [(.k (tx "open")),(.k (tx "open")),(.k (tx "open")),(.k (tx "open")),(.k (tx "shut")),(.k (tx "far"))]) (.bin .mod V4 (kI 6)))]⟩
def f_law_made_up:Fd:=⟨6,14,[.set 6 true (.lst []),.set 7 false (.lst []),.set 8 true (.lst [(.tup [(.tup []),V0])]),.whl (.cmp .ne V8 (.lst [])) zbN,.frz [6],.ret (.tup [V6,(.bi .sorted [V7])])]⟩
def f_law_spoilt:Fd:=⟨2,9,[.set 2 false (.call 55 [V1,(kI 301),(kI 14)]),.set 3 false (.call 55 [V1,(kI 302),(.bi .len [V0])]),.set 4 false (.ix V0 V3),.set 5 false (.sl V0 none (some V3)),.set 6 false (.sl V0 (some (.bin .add V3 (kI 1))) none),.ite (.cmp .eq V2 (kI 0)) [.ret (.bin .add V5 V6)] [],.ite (.cmp .eq V2 (kI 1)) [.ret (.bin .add (.bin .add V5 (.lst [V4,V4])) V6)] [],.ite (.cmp .eq V2 (kI 2)) [.ret (.bin .add (.bin .add (.bin .add V5 (.sl V6 none (some (kI 1)))) (.lst [V4])) (.sl V6 (some (kI 1)) none))] [],.ite (.cmp .eq V2 (kI 3)) [.set 7 false (.ix (.lst [(.k (tx "whole")),(.k (tx "")),(.k (tx "Open")),(.k (tx "none"))]) (.call 55 [V1,(kI 303),(kI 4)])),.ret (.bin .add (.bin .add V5 (.lst [(.tup [(.ix V4 (kI 0)),V7])])) V6)] [],.ite (.cmp .eq V2 (kI 4)) [.set 8 false (.bin .add (.ix V4 (kI 0)) (.tup [(.call 55 [V1,(kI 304),(kI 4)])])),.ret (.bin .add (.bin .add V5 (.lst [(.tup [V8,(.ix V4 (kI 1))])])) V6)] [],.ite (.cmp .eq V2 (kI 5)) [.set 8 false (.tup [(.bin .sub (.call 55 [V1,(kI 305),(kI 3)]) (kI 1))]),.ret (.bin .add V0 (.lst [(.tup [V8,(.ix (.lst [(.k (tx "open")),(.k (tx "far")),(.k (tx "shut"))]) (.call 55 [V1,(kI 306),(kI 3)]))])]))] [],.ite (.cmp .eq V2 (kI 6)) [.ret (.bin .add (.bin .add V5 (.lst [(.tup [(.sl (.ix V4 (kI 0)) none (some (.neg (kI 1)))),(.ix V4 (kI 1))])])) V6)] [],.ret V0]⟩
def f_law:Fd:=⟨1,19,[.set 1 false (.call 54 [V0,(kI 0)]),.set 2 false (.call 56 [V1]),.set 3 false (.bin .add (kI 2) (.call 55 [V1,(kI 91),(kI 2)])),.set 4 false (.call 59 [(.sl V0 (some (kI 6)) (some (kI 66))),V3,V2]),.set 5 false (.call 61 [(.bi .list [V4]),(.call 54 [V0,(kI 1)])]),.set 6 false (.call 54 [V0,(kI 2)]),.set 7 false (.tup [(.k (tx "anything"))]),.set 8 false (.k .non),.ite (.cmp .gt (.call 55 [V6,(kI 95),(kI 3)]) (kI 0)) [.set 7 false (.call 70 [(.compR (.bin .add V1 (.bin .mul (kI 113) V0)) 1 [6] (.one 0) [(.bin .add (kI 1) (.call 55 [V6,(kI 93),(kI 3)]))]),V3,V2]),.set 8 false (.call 72 [V7])] [],.set 9 false (.call 68 [(.call 54 [V0,(kI 3)]),V3,V2]),.set 10 false (.call 55 [(.call 54 [V0,(kI 3)]),(kI 94),(.ix V2 (kI 2))]),.set 11 false (.call 55 [(.call 54 [V0,(kI 4)]),(kI 99),(kI 13)]),.set 12 false (.sl (.call 75 [V4,V7,iW,V9]) none (some oK)),.set 13 false (.call 77 [V5,V7,iW,V9,iV,(.call 54 [V0,(kI 4)])]),.set 14 false (.bi .tuple [(.call 78 [(.ix mM (kI 0)),(.call 54 [V0,(kI 5)])])]),.set 15 false (.sl (.ix mM (kI 1)) none (some oK)),.set 6 false (.call 54 [V0,(kI 5)]),.set 16 false (.bin .add kL (.lst [(.tup [(.call 55 [V6,(kI 96),(.bin .pow (kI 10) (kI 30))]),(.call 55 [V6,(kI 97),(.bin .pow (kI 10) (kI 18))])])])),.forS (.one 17) (.lst [iV,kL,(.sl kL none (some (.neg (kI 1)))),xO]) mO,.ret (.k (.bl true))]⟩
noncomputable def DC:Fd:=⟨3,3,[.ret (.k (.bl true))]⟩
def DI:Fd:=⟨3,3,[.ret (.k (tx "every"))]⟩
def Dy:Fd:=⟨3,3,[.ret (.call 33 [(.call 12 [V1,V2]),(.fld V0 0 (Qa "box"))])]⟩
def DL:Fd:=⟨3,3,[.ret (.call 41 [(.call 33 [(.call 43 [V1,V2]),(.fld V0 0 (Qa "box"))]),(.not (.call 33 [(.call 42 [V1,V2]),(.fld V0 0 (Qa "box"))]))])]⟩
def DN:Fd:=⟨3,3,[.ret (.call 34 [(.call 12 [V1,V2]),(.fld V0 0 (Qa "box"))])]⟩
def DD:Fd:=⟨3,3,[.ret (.call 41 [(.call 34 [(.call 42 [V1,V2]),(.fld V0 0 (Qa "box"))]),(.not (.call 34 [(.call 43 [V1,V2]),(.fld V0 0 (Qa "box"))]))])]⟩
def Dx:Fd:=⟨3,3,[.ret (.call 34 [(.fld V0 0 (Qa "box")),(.call 12 [V1,V2])])]⟩
def DK:Fd:=⟨3,3,[.ret (.call 41 [(.call 34 [(.fld V0 0 (Qa "box")),(.call 43 [V1,V2])]),(.not (.call 34 [(.fld V0 0 (Qa "box")),(.call 42 [V1,V2])]))])]⟩
def Dz:Fd:=⟨3,3,[.ret (.cmp .le (.call 35 [(.call 12 [V1,V2]),(.fld V0 0 (Qa "box"))]) (.fld V0 1 (Qa "far")))]⟩
def f_Near_verdict:Fd:=⟨3,5,[.set 3 false (.call 35 [(.call 43 [V1,V2]),(.fld V0 0 (Qa "box"))]),.set 4 false (.call 35 [(.call 42 [V1,V2]),(.fld V0 0 (Qa "box"))]),.ret (.call 41 [(.cmp .le V3 (.fld V0 1 (Qa "far"))),(.cmp .gt V4 (.fld V0 1 (Qa "far")))])]⟩
def DO:Fd:=⟨3,3,[.ret (.call 44 [(.call 10 [V1]),(.fld V0 0 (Qa "marks"))])]⟩
def DE:Fd:=⟨3,3,[.ret (.call 41 [(.call 44 [(.call 16 [V1]),(.fld V0 0 (Qa "marks"))]),(.not (.call 44 [(.call 15 [V1]),(.fld V0 0 (Qa "marks"))]))])]⟩
def DM:Fd:=⟨3,3,[.ret (.call 45 [(.call 10 [V1]),(.fld V0 0 (Qa "marks"))])]⟩
def DH:Fd:=⟨3,3,[.ret (.call 41 [(.call 45 [(.call 16 [V1]),(.fld V0 0 (Qa "marks"))]),(.not (.call 45 [(.call 15 [V1]),(.fld V0 0 (Qa "marks"))]))])]⟩
def DJ:Fd:=⟨3,3,[.ret (.call 46 [(.call 9 [V1]),(.fld V0 0 (Qa "box")),(.fld V0 1 (Qa "first")),(.fld V0 2 (Qa "last"))])]⟩
def f_Crosses_verdict:Fd:=⟨3,5,[.set 3 false (.call 46 [(.call 14 [V1]),(.fld V0 0 (Qa "box")),(.fld V0 1 (Qa "first")),(.fld V0 2 (Qa "last"))]),.set 4 false (.call 46 [(.call 13 [V1]),(.fld V0 0 (Qa "box")),(.fld V0 1 (Qa "first")),(.fld V0 2 (Qa "last"))]),.ret (.call 41 [V3,(.not V4)])]⟩
def DP:Fd:=⟨3,3,[.ret (.cmp .ge (.call 11 [V1]) (.fld V0 0 (Qa "least")))]⟩
def DF:Fd:=⟨3,3,[.ret (.call 41 [(.cmp .ge (.call 17 [V1]) (.fld V0 0 (Qa "least"))),(.cmp .lt (.call 18 [V1]) (.fld V0 0 (Qa "least")))])]⟩
def f_Both_suits:Fd:=⟨3,3,[.ret (.and (.mc (.fld V0 0 (Qa "one")) (Qa "suits") TBs [V1,V2]) (.mc (.fld V0 1 (Qa "two")) (Qa "suits") TBs [V1,V2]))]⟩
def f_Both_verdict:Fd:=⟨3,4,[.set 3 false (.tup [(.mc (.fld V0 0 (Qa "one")) (Qa "verdict") TBv [V1,V2]),(.mc (.fld V0 1 (Qa "two")) (Qa "verdict") TBv [V1,V2])]),.ret (.call 41 [(.cmp .eq V3 (.tup [(.k (tx "every")),(.k (tx "every"))])),(.cmp .isin (.k (tx "none")) V3)])]⟩
def f_Either_suits:Fd:=⟨3,3,[.ret (.or (.mc (.fld V0 0 (Qa "one")) (Qa "suits") TBs [V1,V2]) (.mc (.fld V0 1 (Qa "two")) (Qa "suits") TBs [V1,V2]))]⟩
def f_Either_verdict:Fd:=⟨3,4,[.set 3 false (.tup [(.mc (.fld V0 0 (Qa "one")) (Qa "verdict") TBv [V1,V2]),(.mc (.fld V0 1 (Qa "two")) (Qa "verdict") TBv [V1,V2])]),.ret (.call 41 [(.cmp .isin (.k (tx "every")) V3),(.cmp .eq V3 (.tup [(.k (tx "none")),(.k (tx "none"))]))])]⟩
def f_Unless_suits:Fd:=⟨3,3,[.ret (.not (.mc (.fld V0 0 (Qa "one")) (Qa "suits") TBs [V1,V2]))]⟩
def f_Unless_verdict:Fd:=⟨3,4,[.set 3 false (.mc (.fld V0 0 (Qa "one")) (Qa "verdict") TBv [V1,V2]),.ret (.call 41 [(.cmp .eq V3 (.k (tx "none"))),(.cmp .eq V3 (.k (tx "every")))])]⟩
def tab:List Fd:=[qRz,f_side_at,f_side_joined,f_side_narrowed,f_still_swath,f_frame_at,f_frames_joined,f_frames_narrowed,DQ,qEe,qEf,qEd,f_thing_box,qE2,qE0,qFF,qE1,qEZ,Dl,f_thing_told,f_told_poured,f_tolds_poured,f_is_leaf,f_page_told,f_page_parts,f_things_tolds,f_pages_tolds,f_make_leaf,f_make_fork,f_suiting_in,f_sides_meet,f_side_inside,f_side_gap,f_boxes_meet,f_box_inside,f_box_gap,f_pages_of_cut,f_is_shut,f_beats_of,f_beats_below,f_meeting,f_verdict_from,f_cover_at,f_heart_at,f_has_each,f_has_one,f_crosses_box,qCk,f_cover_gap,f_rows_of_leaf,f_is_far,f_near_word_stands,f_rows_of_open_leaves,f_near_stands,f_law_cell_at,f_law_draw,f_law_scale,f_law_side_by,f_law_thing_by,f_law_things_by,f_law_fork_of,f_law_shape_by,f_law_page_of,f_law_under,f_law_at,f_law_touch,f_law_lies_in,f_law_gap_of,f_law_box_by,f_law_atom_by,f_law_plain_by,f_law_atom_of,f_law_want_of,f_law_atom_suits,f_law_suits,f_law_rows_of,f_law_word_by,f_law_made_up,f_law_spoilt,f_law,DC,DI,Dy,DL,DN,DD,Dx,DK,Dz,f_Near_verdict,DO,DE,DM,DH,DJ,f_Crosses_verdict,DP,DF,f_Both_suits,f_Both_verdict,f_Either_suits,f_Either_verdict,f_Unless_suits,f_Unless_verdict]
theorem t1:tab[1]?=some f_side_at:=rfl
theorem t2:tab[2]?=some f_side_joined:=rfl
theorem t8:tab[8]?=some DQ:=rfl
theorem t18:tab[18]?=some Dl:=rfl
theorem t30:tab[30]?=some f_sides_meet:=rfl
end Dw.T 
namespace Dw
noncomputable abbrev zF (d:D):Option R:=some (false,d)
noncomputable abbrev zT (d:D):Option R:=some (true,d)
abbrev bQ:=@List.getElem?_cons_zero
abbrev cm:=@List.getElem?_cons_succ
abbrev bE:=@Option.bind_some
abbrev bP:=@Option.join_some
abbrev bS:=@Option.map_some
abbrev kR:=@List.set_cons_zero
abbrev kQ:=@List.set_cons_succ
abbrev cI:=@List.length_cons
abbrev bA:=@List.length_map
abbrev i6:=@Bool.and_false
abbrev eC:=@List.length_nil
abbrev eB:=@List.map_cons
abbrev dF:=@List.length_append
abbrev gO:=@List.take_of_length_le
abbrev zAo:=@Option.map_eq_some_iff
abbrev fh:=@List.map_append
abbrev zAq:=@List.replicate_zero
abbrev eV:=@List.append_nil
abbrev sC:=@List.cons_append
abbrev iu:=@List.getElem?_map
abbrev ir:=@List.mem_cons_self
abbrev yk:=@Bool.and_true
abbrev i4:=@Int.eq_ofNat_of_zero_le
abbrev jH:=@List.mem_cons_of_mem
abbrev sy:=@List.map_nil
abbrev zBa:=@List.mem_range
abbrev yj:=@List.nil_append
abbrev kP:=@List.getElem?_eq_getElem
abbrev zBd:=@List.all_eq_true
abbrev yi:=@Int.fmod_eq_emod_of_nonneg
abbrev yh:=@Int.fdiv_eq_ediv_of_nonneg
abbrev pv:=@Int.mul_le_mul_of_nonneg_right
abbrev fT:=@Nat.le_refl
abbrev mU:=@List.mem_of_getElem?
abbrev iq:=@Nat.zero_add
abbrev jG:=@List.append_assoc
abbrev pq:=@List.getD_eq_getElem?_getD
abbrev pj:=@List.mem_append_right
abbrev mS:=@List.length_singleton
abbrev zBo:=@List.getElem?_eq_some_iff
abbrev sx:=@List.mem_append_left
abbrev mR:=@List.length_range
abbrev jF:=@Bool.and_eq_true
abbrev kO:=@List.length_drop
abbrev pf:=@List.drop_eq_nil_of_le
abbrev zBu:=@List.mem_singleton
abbrev zBv:=@List.mem_append
abbrev pd:=@List.take_append_drop
abbrev mQ:=@Nat.min_eq_right
abbrev iZ:=@Int.le_refl
abbrev o8:=@Int.toNat_of_nonneg
abbrev oZ:=@List.length_reverse
abbrev zCb:=@List.mem_cons
abbrev oY:=@List.map_map
abbrev yg:=@List.length_filter_le
abbrev yf:=@Nat.pow_le_pow_right
abbrev sv:=@Nat.eq_of_testBit_eq
abbrev ye:=@Bool.eq_iff_iff
abbrev oX:=@Nat.min_eq_left
abbrev oW:=@Bool.false_ne_true
abbrev oV:=@List.map_drop
abbrev oU:=@List.map_take
abbrev mP:=@Nat.zero_le
theorem bf {n:Nat}(h:n<=16777216):n<=lim:=h
theorem j9 {n:Nat}(h:n<16777216):n<lim:=h
theorem lj:(1<=lim)=True:=eq_true (bf (by decide))
theorem jT:(2<=lim)=True:=eq_true (bf (by decide))
theorem qVl:(4<=lim)=True:=eq_true (bf (by decide))
def d5:=eH
def dq:=eI
def bZ:=mz
def aH:=mq
def pQ:=tJ
def gf:=gI
def dU:=gw
def DY:=mw
def yH:=tP
def gY:=d9
def iJ:=bR
def qo:=fG
def qQb:=lL
def tK:=iA
def tL:=iH
section
variable (a b:Int) (x y z:D) (xs ys:List D)
@[simp] theorem iQ:d5 .add (.int a) (.int b)=some (false,.int (a+b)):=rfl
@[simp] theorem rM:d5 .sub (.int a) (.int b)=some (false,.int (a - b)):=rfl
@[simp] theorem nX:d5 .mul (.int a) (.int b)=if dH a b then some (false,.int (a * b)) else none:=rfl
@[simp] theorem qR1:d5 .fdiv (.int a) (.int b)=if fK b then some (false,.int (a.fdiv b)) else none:=rfl
@[simp] theorem qLz:d5 .mod (.int a) (.int b)=if fK b then some (false,.int (a.fmod b)) else none:=rfl
@[simp] theorem nY:d5 .pow (.int a) (.int b)=if fL a b then some (false,.int (a^b.toNat)) else none:=rfl
@[simp] theorem qJE:d5 .band (.int a) (.int b)=if 0<=a/\0<=b then some (false,.int ((a.toNat &&& b.toNat:Nat):Int)) else none:=rfl
@[simp] theorem qLA:d5 .bor (.int a) (.int b)=if 0<=a/\0<=b then some (false,.int ((a.toNat ||| b.toNat:Nat):Int)) else none:=rfl
@[simp] theorem A2:dq .eq x y=if (bI 20 x||bI 20 y)&&(br x&&br y) then some (false,.bl (bu x y)) else none:=rfl
@[simp] theorem rh:dq .ne x y=if (bI 20 x||bI 20 y)&&(br x&&br y) then some (false,.bl (!bu x y)) else (pX x y).map λe=>(false,.bl (!e)):=rfl
@[simp] theorem n0:dq .eq (.int a) (.int b)=some (false,.bl (bu (.int a) (.int b))):=rfl
@[simp] theorem qSB:dq .ne (.int a) (.int b)=some (false,.bl (!bu (.int a) (.int b))):=rfl
@[simp] theorem kh:dq .lt (.int a) (.int b)=some (false,.bl (decide (a<b))):=rfl
@[simp] theorem qTX:dq .le (.int a) (.int b)=some (false,.bl (decide (a<=b))):=rfl
@[simp] theorem qO0:dq .gt (.int a) (.int b)=some (false,.bl (decide (b<a))):=rfl
@[simp] theorem qTY:dq .ge (.int a) (.int b)=some (false,.bl (decide (b<=a))):=rfl
theorem qRq (i j:Int):(if j<i then j else i)=min i j:=by omega
theorem uB (i j:Int):(if i<j then j else i)=max i j:=by omega
@[simp] theorem vg:bZ .len [.tup xs]=some (false,.int xs.length):=rfl
@[simp] theorem rL:bZ .len [.lst xs]=some (false,.int xs.length):=rfl
@[simp] theorem qT6:bZ .min [.int a,.int b]=some (false,.int (min a b)):=by rw [<-qRq];rfl
@[simp] theorem qT7:bZ .max [.int a,.int b]=some (false,.int (max a b)):=by rw [<-uB];rfl
@[simp] theorem qLD (c:Int):bZ .max [.int a,.int b,.int c]=some (false,.int (max (max a b) c)):=by rw [<-uB,<-uB];rfl
@[simp] theorem qO9:bZ .sum [.lst xs]=(f7 xs).map λis=>(false,.int is.sum):=rfl
@[simp] theorem qPa:bZ .all [.lst xs]=(g9 xs).map λbs=>(false,.bl (bs.all id)):=rfl
@[simp] theorem qLC:bZ .tuple [.lst xs]=some (false,.tup xs):=rfl
@[simp] theorem qSD:bZ .list [.lst xs]=some (true,.lst xs):=rfl
@[simp] theorem lB:aH (.lst xs) (.int a)=(gf xs a).map (false,·):=rfl
@[simp] theorem zt:aH (.tup xs) (.int a)=(gf xs a).map (false,·):=rfl
@[simp] theorem zu:gf (x::xs) 0=some x:=by simp [gf]
@[simp] theorem qTB:gf (x::y::xs) 1=some y:=by
 simp only [gf,gI,ixN,fW];rw [Ql (by omega),Ql (by omega)];rfl
theorem u9 (j:Nat):gf xs (j:Int)=xs[j]?:=by
 simp only [gf,gI,ixN];rw [Ql (by omega)]
 by_cases h:j<xs.length
 ·rw [Ql (by omega)];simp
 ·rw [Qm (by omega)];simp;omega
@[simp] theorem qI (l h):pQ l h (.lst xs)=some (true,.lst (dU xs l h)):=rfl
@[simp] theorem qKY:yH (.int a)=some (false,.int (-a)):=rfl
@[simp] theorem qQi:gY [.int a]=if -(2^62)<=a/\a<2^62 then some ((List.range a.toNat).map λi=>.int (i:Nat)) else none:=rfl
@[simp] theorem qPo:bZ .sorted [.lst xs]=lr xs:=rfl
theorem qQh (c:Int):gY [.int a,.int b,.int c]=if -(2^62)<=a/\a<2^62/\-(2^62)<=b/\b<2^62/\c≠0/\c.natAbs<2^30 then some ((List.range (eJ a b c).toNat).map λi=>.int (a+(i:Nat) * c)) else none:=rfl
theorem qS5:tK [.int a]=if -(2^62)<=a/\a<2^62 then some ((List.range a.toNat).map λi=>.int ((a.toNat:Int) - 1 - (i:Nat))) else none:=rfl
theorem AS (n:Nat) (h:n<=10000):gY [.int n]=some ((List.range n).map λi=>.int (i:Nat)):=by
 rw [qQi,Ql (by omega)];simp
end
section
variable (call:Nat->List D->Option R) (Z:En)
@[simp 5000] theorem qr (i):aa call Z (.v i)=jk (ax Z i):=rfl
@[simp 5000] theorem cQ (d):aa call Z (.k d)=some (false,d):=rfl
@[simp 5000] theorem eO (o a b):aa call Z (.bin o a b)=match pk Z a (aa call Z a) with
 | none=>none|some x=>match pk Z b (aa call Z b) with|none=>none|some y=>d5 o x y:=by
 rw [BK];cases pk Z a (aa call Z a)<;>first|rfl|(cases pk Z b (aa call Z b)<;>rfl)
@[simp 5000] theorem qPv (a):aa call Z (.neg a)=match pk Z a (aa call Z a) with|none=>none|some x=>yH x:=by
 rw [qOP];cases pk Z a (aa call Z a)<;>rfl
@[simp 5000] theorem gD (o a b):aa call Z (.cmp o a b)=match pk Z a (aa call Z a) with
 | none=>none|some x=>match pk Z b (aa call Z b) with|none=>none|some y=>dq o x y:=by
 rw [uX];cases pk Z a (aa call Z a)<;>first|rfl|(cases pk Z b (aa call Z b)<;>rfl)
@[simp 5000] theorem qUd (n a d):aa call Z (.isC n a d)=match pk Z a (aa call Z a) with|none=>none|some x=>DY n x d:=by
 rw [qOR];cases pk Z a (aa call Z a)<;>rfl
@[simp 5000] theorem uE (a b):aa call Z (.and a b)=match aa call Z a with
 | none=>none|some (_,.bl c)=>(if c=true then aa call Z b else some (false,.bl false))|some _=>none:=by
 rw [qOT];rcases aa call Z a with _|⟨x,d⟩<;>first|rfl|(cases d<;>first|rfl|(rename_i c;cases c<;>rfl))
@[simp 5000] theorem qSJ (a b):aa call Z (.or a b)=match aa call Z a with
 | none=>none|some (_,.bl c)=>(if c=true then some (false,.bl true) else aa call Z b)|some _=>none:=by
 rw [qRB];rcases aa call Z a with _|⟨x,d⟩<;>first|rfl|(cases d<;>first|rfl|(rename_i c;cases c<;>rfl))
@[simp 5000] theorem AL (a):aa call Z (.not a)=match aa call Z a with
 | none=>none|some (_,.bl c)=>some (false,.bl (!c))|some _=>none:=by
 rw [qOO];rcases aa call Z a with _|⟨x,d⟩<;>first|rfl|(cases d<;>rfl)
@[simp 5000] theorem fI (a b):aa call Z (.ix a b)=match pk Z a (aa call Z a) with
 | none=>none|some x=>match pk Z b (aa call Z b) with|none=>none|some y=>aH x y:=by
 rw [zW];cases pk Z a (aa call Z a)<;>first|rfl|(cases pk Z b (aa call Z b)<;>rfl)
@[simp 5000] theorem nF (a lo hi):aa call Z (.sl a lo hi)=match pk Z a (aa call Z a) with
 | none=>none|some x=>match gh call Z lo with|none=>none|some l=>match gh call Z hi with|none=>none|some h=>pQ l h x:=by
 rw [qRA];cases pk Z a (aa call Z a)<;>first|rfl|(cases gh call Z lo<;>first|rfl|(cases gh call Z hi<;>rfl))
@[simp 5000] theorem eQ (as):aa call Z (.tup as)=match bO call Z as with|none=>none|some xs=>if xs.length<=lim then some (false,.tup xs) else none:=by
 rw [qON];cases bO call Z as<;>rfl
@[simp 5000] theorem lO (as):aa call Z (.lst as)=match bO call Z as with|none=>none|some xs=>if xs.length<=lim then some (true,.lst xs) else none:=by
 rw [qOQ];cases bO call Z as<;>rfl
@[simp 5000] theorem fe (f as):aa call Z (.call f as)=match gi call Z as with|none=>none|some xs=>call f xs:=by
 rw [Cg];cases gi call Z as<;>rfl
@[simp 5000] theorem jZ (b as):aa call Z (.bi b as)=match bG call Z as with|none=>none|some xs=>bZ b xs:=by
 rw [qRD];cases bG call Z as<;>rfl
@[simp 5000] theorem AK (c a b):aa call Z (.ifx c a b)=match aa call Z c with
 | none=>none|some (_,.bl t)=>(if t=true then aa call Z a else aa call Z b)|some _=>none:=by
 rw [qOS];rcases aa call Z c with _|⟨x,d⟩<;>first|rfl|(cases d<;>first|rfl|(rename_i c;cases c<;>rfl))
@[simp 5000] theorem qJY (e nl ks tg rs):aa call Z (.compR e nl ks tg rs)=match bG call Z rs with
 | none=>none|some x=>match gY x with|none=>none|some its=>if its.length<=lim then (match cL call e (bF Z nl ks) tg its with|none=>none|some ys=>some (true,.lst ys)) else none:=by
 rw [qI0]
 cases bG call Z rs with
 | none=>rfl
 | some x => show (d9 x).bind _ = match d9 x with | none => none | some its => _
             cases d9 x with
             | none=>rfl
             | some its => show (if its.length <= lim then (cL call e (bF Z nl ks) tg its).bind _ else none) = if its.length <= lim then (match cL call e (bF Z nl ks) tg its with | none => none | some ys => _) else none
                           cases cL call e (bF Z nl ks) tg its<;>rfl
@[simp 5000] theorem qJX (e nl ks tg a b):aa call Z (.compZ e nl ks tg a b)=match aa call Z a with
 | none=>none|some x=>match aa call Z b with|none=>none|some y=>match iJ x.2 with|none=>none|some xs=>match qo y.2 with|none=>none|some ys=>match cL call e (bF Z nl ks) tg (cF xs ys) with|none=>none|some zs=>some (true,.lst zs):=by
 rw [qIZ]
 cases aa call Z a with
 | none=>rfl
 | some x =>
  cases aa call Z b with
  | none=>rfl
  | some y =>
   show (bR x.2).bind _=match bR x.2 with|none=>none|some its=>_
   cases bR x.2 with
   | none=>rfl
   | some xs =>
    show (fG y.2).bind _=match fG y.2 with|none=>none|some its=>_
    cases fG y.2 with
    | none=>rfl
    | some ys =>
     show (cL call e (bF Z nl ks) tg (cF xs ys)).bind _=match cL call e (bF Z nl ks) tg (cF xs ys) with|none=>none|some ys=>_
     cases cL call e (bF Z nl ks) tg (cF xs ys)<;>rfl
@[simp 5000] theorem qUe (a j f):aa call Z (.fld a j f)=match aa call Z a with|none=>none|some r=>cU j f r.2:=by
 rw [Bs];cases aa call Z a<;>rfl
@[simp 5000] theorem qUL (kn as):aa call Z (.mk kn as)=match bO call Z as with|none=>none|some xs=>if xs.length=kn.ns.length then some (false,.obj kn xs) else none:=by
 rw [zY];cases bO call Z as<;>rfl
@[simp 5000] theorem dB (a r):bO call Z (a::r)=match aa call Z a with|none=>none|some x=>match bO call Z r with|none=>none|some xs=>some (x.2::xs):=by
 rw [qLn];cases aa call Z a<;>first|rfl|(cases bO call Z r<;>rfl)
theorem yC {a:C}{m:PySem.Str}{tb:List (Nat×Nat)}{bs:List C}{b:Bool}{kn:Kn}{os ys:List D}{f:Nat}{r:R}(ho:aa call Z a=some (b,.obj kn os)) (hm:kn.ns.all (λf=>f != m)=true) (ht:tb.lookup kn.c=some f) (hb:bO call Z bs=some ys) (hc:call f (.obj kn os::ys)=some r):aa call Z (.mc a m tb bs)=some r:=by
 rw [zX,ho,fj]
 simp only [vQ,hm,if_true]
 rw [ht,fj,hb,fj,hc]
@[simp 5000] theorem ff (a r):gi call Z (a::r)=match ag Z a (aa call Z a) with|none=>none|some x=>match gi call Z r with|none=>none|some xs=>some (x::xs):=by
 rw [Ci];cases ag Z a (aa call Z a)<;>first|rfl|(cases gi call Z r<;>rfl)
@[simp 5000] theorem kv (a r):bG call Z (a::r)=match pk Z a (aa call Z a) with|none=>none|some x=>match bG call Z r with|none=>none|some xs=>some (x::xs):=by
 rw [qI5];cases pk Z a (aa call Z a)<;>first|rfl|(cases bG call Z r<;>rfl)
@[simp 5000] theorem og (c):gh call Z (some c)=match pk Z c (aa call Z c) with|none=>none|some x=>jc x:=by
 rw [qLk];cases pk Z c (aa call Z c)<;>rfl
variable (rest:List S)
@[simp 5000] theorem AM (is):ae call Z (.frz is::rest)=ae call (is.foldl frz1 Z) rest:=rfl
@[simp 5000] theorem qPs (i keep e):ae call Z (.set i keep e::rest)=match aa call Z e with|none=>none|some r=>ae call (Z.set i (some (gz keep r))) rest:=by
 rw [eL,Bx];cases aa call Z e<;>rfl
@[simp 5000] theorem qSe (i k e):ae call Z (.setIx i k e::rest)=match aa call Z e with|none=>none|some x=>match pk Z k (aa call Z k) with|none=>none|some n=>match qQb Z i n x.2 with|some (.nx Z')=>ae call Z' rest|some (.rt r)=>some (.rt r)|some (.bk q)=>some (.bk q)|some (.ct q)=>some (.ct q)|none=>none:=by
 rw [eL,qIS]
 cases aa call Z e with
 | none=>rfl
 | some x =>
  cases pk Z k (aa call Z k) with
  | none=>rfl
  | some n =>
   show (lL Z i n x.2).bind _=match lL Z i n x.2 with|some (.nx Z')=>_|some (.rt r)=>_|some (.bk q)=>_|some (.ct q)=>_|none=>_
   rcases lL Z i n x.2 with _|(_|_|_|_)<;>rfl
@[simp 5000] theorem qPu (i e):ae call Z (.app i e::rest)=match aa call Z e with|none=>none|some x=>match tL Z i x.2 with|some (.nx Z')=>ae call Z' rest|some (.rt r)=>some (.rt r)|some (.bk q)=>some (.bk q)|some (.ct q)=>some (.ct q)|none=>none:=by
 rw [eL,Bt]
 cases aa call Z e with
 | none=>rfl
 | some x =>
  show (iH Z i x.2).bind _=match iH Z i x.2 with|some (.nx Z')=>_|some (.rt r)=>_|some (.bk q)=>_|some (.ct q)=>_|none=>_
  rcases iH Z i x.2 with _|(_|_|_|_)<;>rfl
@[simp 5000] theorem qPt (e):ae call Z (.ret e::rest)=match gy Z e (aa call Z e) with|none=>none|some r=>some (.rt r):=by
 rw [eL,uY];cases gy Z e (aa call Z e)<;>rfl
@[simp 5000] theorem uF (c a b):ae call Z (.ite c a b::rest)=match aa call Z c with
 | none=>none
 | some (_,.bl t)=>if t=true then (match ae call Z a with|some (.nx Z')=>ae call Z' rest|some (.rt r)=>some (.rt r)|some (.bk q)=>some (.bk q)|some (.ct q)=>some (.ct q)|none=>none)
   else (match ae call Z b with|some (.nx Z')=>ae call Z' rest|some (.rt r)=>some (.rt r)|some (.bk q)=>some (.bk q)|some (.ct q)=>some (.ct q)|none=>none)
 | some _=>none:=by
 rw [eL,Bv]
 rcases aa call Z c with _|⟨x,d⟩
 ·rfl
 ·cases d with
  | bl t =>
   cases t with
   | true => show (ae call Z a).bind _ = match ae call Z a with | some (.nx Z') => _ | some (.rt r) => _ | some (.bk q) => _ | some (.ct q) => _ | none => _
             rcases ae call Z a with _|(_|_|_|_)<;>rfl
   | false => show (ae call Z b).bind _ = match ae call Z b with | some (.nx Z') => _ | some (.rt r) => _ | some (.bk q) => _ | some (.ct q) => _ | none => _
              rcases ae call Z b with _|(_|_|_|_)<;>rfl
  | _=>rfl
@[simp 5000] theorem BU (tg src body):ae call Z (.forS tg src body::rest)=match aa call Z src with|none=>none|some x=>match iJ x.2 with|none=>none|some its=>match bC call body tg its Z with|some (.nx Z')=>ae call Z' rest|some (.rt r)=>some (.rt r)|some (.bk q)=>some (.bk q)|some (.ct q)=>some (.ct q)|none=>none:=by
 rw [eL,Ck]
 cases aa call Z src with
 | none=>rfl
 | some x =>
  show ((bR x.2).bind _).bind _=match bR x.2 with|none=>none|some its=>_
  cases bR x.2 with
  | none=>rfl
  | some its =>
   show (bC call body tg its Z).bind _=match bC call body tg its Z with|some (.nx Z')=>_|some (.rt r)=>_|some (.bk q)=>_|some (.ct q)=>_|none=>_
   rcases bC call body tg its Z with _|(_|_|_|_)<;>rfl
@[simp 5000] theorem BS (tg rs body):ae call Z (.forR tg rs body::rest)=match bG call Z rs with|none=>none|some x=>match gY x with|none=>none|some its=>match bC call body tg its Z with|some (.nx Z')=>ae call Z' rest|some (.rt r)=>some (.rt r)|some (.bk q)=>some (.bk q)|some (.ct q)=>some (.ct q)|none=>none:=by
 rw [eL,Cj]
 cases bG call Z rs with
 | none=>rfl
 | some x =>
  show ((d9 x).bind _).bind _=match d9 x with|none=>none|some its=>_
  cases d9 x with
  | none=>rfl
  | some its =>
   show (bC call body tg its Z).bind _=match bC call body tg its Z with|some (.nx Z')=>_|some (.rt r)=>_|some (.bk q)=>_|some (.ct q)=>_|none=>_
   rcases bC call body tg its Z with _|(_|_|_|_)<;>rfl
@[simp 5000] theorem qMR (tg rs body):ae call Z (.forV tg rs body::rest)=match bG call Z rs with|none=>none|some x=>match tK x with|none=>none|some its=>match bC call body tg its Z with|some (.nx Z')=>ae call Z' rest|some (.rt r)=>some (.rt r)|some (.bk q)=>some (.bk q)|some (.ct q)=>some (.ct q)|none=>none:=by
 rw [eL,Cn]
 cases bG call Z rs with
 | none=>rfl
 | some x =>
  show ((iA x).bind _).bind _=match iA x with|none=>none|some its=>_
  cases iA x with
  | none=>rfl
  | some its =>
   show (bC call body tg its Z).bind _=match bC call body tg its Z with|some (.nx Z')=>_|some (.rt r)=>_|some (.bk q)=>_|some (.ct q)=>_|none=>_
   rcases bC call body tg its Z with _|(_|_|_|_)<;>rfl
@[simp 5000] theorem qMQ (tg a b body):ae call Z (.forZ tg a b body::rest)=match aa call Z a with|none=>none|some x=>match aa call Z b with|none=>none|some y=>match iJ x.2 with|none=>none|some xs=>match qo y.2 with|none=>none|some ys=>match bC call body tg (cF xs ys) Z with|some (.nx Z')=>ae call Z' rest|some (.rt r)=>some (.rt r)|some (.bk q)=>some (.bk q)|some (.ct q)=>some (.ct q)|none=>none:=by
 rw [eL,Co]
 cases aa call Z a with
 | none=>rfl
 | some x =>
  cases aa call Z b with
  | none=>rfl
  | some y =>
   show ((bR x.2).bind _).bind _=match bR x.2 with|none=>none|some its=>_
   cases bR x.2 with
   | none=>rfl
   | some xs =>
    show ((fG y.2).bind _).bind _=match fG y.2 with|none=>none|some its=>_
    cases fG y.2 with
    | none=>rfl
    | some ys =>
     show (bC call body tg (cF xs ys) Z).bind _=match bC call body tg (cF xs ys) Z with|some (.nx Z')=>_|some (.rt r)=>_|some (.bk q)=>_|some (.ct q)=>_|none=>_
     rcases bC call body tg (cF xs ys) Z with _|(_|_|_|_)<;>rfl
theorem qLF {Z:En}{i:Nat}{xs:List D}{e:D}(h:ax Z i=some (true,.lst xs)) (hl:xs.length<lim):tL Z i e=some (.nx (Z.set i (some (true,.lst (xs++[e]))))):=by
 show iH Z i e=_
 unfold iH;rw [h];simp only;rw [Ql hl]
section
variable {call:Nat->List D->Option R}{Z:En}{rest:List S}{z:Option Ou}
theorem ay {i:Nat}{keep:Bool}{e:C}(r:R) (h:aa call Z e=some r) (k:ae call (Z.set i (some (gz keep r))) rest=z):ae call Z (.set i keep e::rest)=z:=by
 rw [qPs,h];exact k
theorem km {i:Nat}{e:C}{xs:List D}(r:R) (h:aa call Z e=some r) (ho:ax Z i=some (true,.lst xs)) (hl:xs.length<lim) (k:ae call (Z.set i (some (true,.lst (xs++[r.2])))) rest=z):ae call Z (.app i e::rest)=z:=by
 rw [qPu,h];show (match tL Z i r.2 with|some (.nx Z')=>ae call Z' rest|some (.rt r)=>some (.rt r)|some (.bk q)=>some (.bk q)|some (.ct q)=>some (.ct q)|none=>none)=z
 rw [qLF ho hl];exact k
theorem fY {c:C}{a b:List S}{x:Bool}{Z':En}(h:aa call Z c=some (x,.bl true)) (ha:ae call Z a=some (.nx Z')) (k:ae call Z' rest=z):ae call Z (.ite c a b::rest)=z:=by
 rw [uF,h];simp only [if_true];rw [ha];exact k
theorem qg {c:C}{a b:List S}{x:Bool}{Z':En}(h:aa call Z c=some (x,.bl false)) (ha:ae call Z b=some (.nx Z')) (k:ae call Z' rest=z):ae call Z (.ite c a b::rest)=z:=by
 rw [uF,h];simp only [jM,if_false];rw [ha];exact k
theorem aq {c:C}{a:List S}{x:Bool}(h:aa call Z c=some (x,.bl false)) (k:ae call Z rest=z):ae call Z (.ite c a []::rest)=z:=qg h rfl k
theorem aU {c:C}{a b:List S}{x:Bool}{r:R}(h:aa call Z c=some (x,.bl true)) (ha:ae call Z a=some (.rt r)) (k:some (.rt r)=z):ae call Z (.ite c a b::rest)=z:=by
 rw [uF,h];simp only [if_true];rw [ha];exact k
theorem uQ {tg:Tg}{rs:List C}{body:List S}{ds its:List D}{Z':En}(h:bG call Z rs=some ds) (hr:gY ds=some its) (hf:bC call body tg its Z=some (.nx Z')) (k:ae call Z' rest=z):ae call Z (.forR tg rs body::rest)=z:=by
 rw [BS,h];simp only;rw [hr];simp only;rw [hf];exact k
theorem qNm {tg:Tg}{rs:List C}{body:List S}{ds its:List D}{Z':En}(h:bG call Z rs=some ds) (hr:tK ds=some its) (hf:bC call body tg its Z=some (.nx Z')) (k:ae call Z' rest=z):ae call Z (.forV tg rs body::rest)=z:=by
 rw [qMR,h];simp only;rw [hr];simp only;rw [hf];exact k
theorem AF {i:Nat}{e:C}{xs ys:List D}(h:aa call Z e=some (true,.lst ys)) (ho:ax Z i=some (true,.lst xs)) (hl:xs.length+ys.length<=lim) (k:ae call (Z.set i (some (true,.lst (xs++ys)))) rest=z):ae call Z (.ext i e::rest)=z:=by
 rw [eL,Bu,h]
 simp only [fj,pS]
 rw [ho]
 simp only
 rw [Ql hl]
 exact k
theorem qPZ {tg:Tg}{i:Nat}{xs:List D}{d:D}{Z':En}(ho:ax Z i=some (true,.lst (xs++[d]))) (hb:de (Z.set i (some (true,.lst xs))) tg d=some Z') (k:ae call Z' rest=z):ae call Z (.pop tg i::rest)=z:=by
 rw [eL,Bw]
 unfold qc
 rw [ho]
 simp only [List.getLast?_append,List.getLast?_singleton,fj,List.dropLast_concat,Option.some_or]
 rw [hb]
 exact k
theorem uJ {c:C}{body:List S}{o:Ou}(h:fZ (fun Z'=>aa call Z' c) (fun Z'=>ae call Z' body) fR Z=some o) (k:(match o with|.nx Z'=>ae call Z' rest|.rt r=>some (.rt r)|.bk q=>some (.bk q)|.ct q=>some (.ct q))=z):ae call Z (.whl c body::rest)=z:=by
 rw [eL,By,h]
 cases o<;>exact k
theorem ki {tg:Tg}{src:C}{body:List S}{r:R}{its:List D}{Z':En}(h:aa call Z src=some r) (hr:iJ r.2=some its) (hf:bC call body tg its Z=some (.nx Z')) (k:ae call Z' rest=z):ae call Z (.forS tg src body::rest)=z:=by
 rw [BU,h];simp only;rw [hr];simp only;rw [hf];exact k
theorem ao {e:C}{r:R}(h:gy Z e (aa call Z e)=some r) (k:some (.rt r)=z):ae call Z (.ret e::rest)=z:=by
 rw [qPt,h];exact k
theorem rj {e:C}{nl:Nat}{ks:List Nat}{tg:Tg}{rs:List C}{ds its ys:List D}{Z':En}(h:bG call Z rs=some ds) (hr:gY ds=some its) (hl:its.length<=lim) (hc:bF Z nl ks=Z') (hf:cL call e Z' tg its=some ys):aa call Z (.compR e nl ks tg rs)=some (true,.lst ys):=by
 subst hc
 rw [qJY,h];simp only;rw [hr];simp only;rw [Ql hl,hf]
theorem qTf {c:C}{r:R}(h:aa call Z c=some r):pk Z c (aa call Z c)=some r.2:=by
 cases c with
 | v i =>
  rw [qTQ] at h
  show (ax Z i).bind cj=_
  cases hg:ax Z i with
  | none=>rw [hg] at h;cases h
  | some q =>
   rw [hg] at h
   obtain⟨b,d⟩:=q
   cases b with
   | false=>cases h;rfl
   | true=>cases h
 | _=>rw [h];rfl
theorem qOX {e:C}{nl:Nat}{ks:List Nat}{tg:Tg}{i:Nat}{its ys:List D}{Z':En}(h:ax Z i=some (true,.lst its)) (hc:bF Z nl ks=Z') (hf:cL call e Z' tg its=some ys):aa call Z (.compS e nl ks tg (.v i))=some (true,.lst ys):=by
 subst hc
 rw [Di]
 show ((ax Z i).bind cj).bind _=_
 rw [h]
 show (cL call e (bF Z nl ks) tg its).bind _=_
 rw [hf]
 rfl
theorem hU {e:C}{nl:Nat}{ks:List Nat}{tg:Tg}{src:C}{r:R}{its ys:List D}{Z':En}(h:aa call Z src=some r) (hr:iJ r.2=some its) (hc:bF Z nl ks=Z') (hf:cL call e Z' tg its=some ys):aa call Z (.compS e nl ks tg src)=some (true,.lst ys):=by
 subst hc
 rw [Di,qTf h,fj,show bR r.2=some its from hr,fj,hf]
 rfl
end
theorem qUK (fd:Fd) (as:List D) (h:as.length=fd.np):lq call fd as=match ae call (aQ false as++List.replicate (fd.ns - fd.np) none) fd.body with|some (.nx _)=>some (false,.non)|some (.rt r)=>some r|some (.bk _)=>none|some (.ct _)=>none|none=>none:=by
 unfold lq;rw [Ql h]
 rcases ae call (aQ false as++List.replicate (fd.ns - fd.np) none) fd.body with _|(_|_|_|_)<;>rfl
end
theorem qJv {tab:List Fd}{f:Nat}{fd:Fd}(h:tab[f]?=some fd) (n:Nat) (as:List D) (hl:as.length=fd.np):aG tab (n+1) f as =
  match ae (aG tab n) (aQ false as++List.replicate (fd.ns - fd.np) none) fd.body with|some (.nx _)=>some (false,.non)|some (.rt r)=>some r|some (.bk _)=>none|some (.ct _)=>none|none=>none:=by
 rw [vh h,qUK _ _ _ hl]
theorem au {tab:List Fd}{f:Nat}{fd:Fd}{as:List D}{n:Nat}{r:R}{Z:En}(h:tab[f]?=some fd) (hl:as.length=fd.np) (hZ:aQ false as++List.replicate (fd.ns - fd.np) none=Z) (hb:ae (aG tab n) Z fd.body=some (.rt r)):aG tab (n+1) f as=some r:=by
 subst hZ
 rw [qJv h n as hl,hb]
end Dw
namespace Dw.T
open Dw
section
variable {call:Nat->List D->Option R}{body:List S}{tg:Tg}
theorem jC (I:Nat->En->Prop):∀(its:List D) (a:Nat) (Z:En),I a Z ->
  (∀(k:Nat) (d:D) (Z:En),its[k]?=some d->I (a+k) Z->∃Z1 Z2,de Z tg d=some Z1/\ae call Z1 body=some (.nx Z2)/\I (a+k+1) Z2) ->
  ∃Z',bC call body tg its Z=some (.nx Z')/\I (a+its.length) Z'
 | [],a,Z,h,_=>⟨Z,rfl,by simpa using h⟩
 | d::r,a,Z,h,st=>by
  obtain⟨Z1,Z2,h1,h2,h3⟩:=st 0 d Z rfl (by simpa using h)
  obtain⟨Z',e,h'⟩:=jC I r (a+1) Z2 (by simpa using h3) λk d Z hk hi=>by
   have:=st (k+1) d Z (by simpa using hk) (by rw [show a+(k+1)=a+1+k by omega];exact hi)
   rw [show a+(k+1)+1=a+1+k+1 by omega] at this
   exact this
  refine⟨Z',?_,?_⟩
  ·rw [kz,h1];simp [h2,e]
  ·rw [show a+(d::r).length=a+1+r.length by simp;omega];exact h'
theorem rD (I:Nat->En->Prop) (m:Nat) (f:Nat->D) (Z:En) (h:I 0 Z)
  (st:∀(k:Nat) (Z:En),k<m->I k Z->∃Z1 Z2,de Z tg (f k)=some Z1/\ae call Z1 body=some (.nx Z2)/\I (k+1) Z2) :
  ∃Z',bC call body tg ((List.range m).map f) Z=some (.nx Z')/\I m Z':=by
 obtain⟨Z',e,h'⟩:=jC (call:=call) (body:=body) (tg:=tg) I ((List.range m).map f) 0 Z h λk d Z hk hi=>by
  rw [iu] at hk
  cases q:(List.range m)[k]? with
  | none=>rw [q] at hk;cases hk
  | some j =>
   rw [q] at hk
   obtain⟨hl,ej⟩:=zBo.mp q
   simp at hl ej
   subst ej
   cases hk
   simpa using st k Z hl (by simpa using hi)
 exact⟨Z',e,by simpa using h'⟩
theorem Dj {α:Type}(p:α->Bool) (r:R) (enc:α->D) (I:En->Prop):∀(l:List α) (Z:En),I Z ->
  (∀x∈l,∀Z,I Z->∃Z1,de Z tg (enc x)=some Z1/\((p x=true->ae call Z1 body=some (.rt r))/\(p x=false->∃Z2,ae call Z1 body=some (.nx Z2)/\I Z2))) ->
  (l.any p=true->bC call body tg (l.map enc) Z=some (.rt r))/\(l.any p=false->∃Z',bC call body tg (l.map enc) Z=some (.nx Z')/\I Z')
 | [],Z,h,_=>⟨λz=>by simp at z,λ_=>⟨Z,rfl,h⟩⟩
 | x::l,Z,h,st=>by
  obtain⟨Z1,h1,h2,h3⟩:=st x ir Z h
  cases hp:p x with
  | true=>exact⟨λ_=>by rw [eB,kz,h1];simp [h2 hp],λz=>by simp [hp] at z⟩
  | false =>
   obtain⟨Z2,h4,h5⟩:=h3 hp
   obtain⟨i1,i2⟩:=Dj p r enc I l Z2 h5 λy hy=>st y (jH _ hy)
   constructor
   ·intro z
    simp [hp] at z
    rw [eB,kz,h1]
    simp [h4]
    exact i1 (by simpa using z)
   ·intro z
    simp [hp] at z
    obtain⟨Z',e,h'⟩:=i2 (by simpa using z)
    exact⟨Z',by rw [eB,kz,h1];simp [h4,e],h'⟩
end
noncomputable def bx (m:Nat) (f:Nat->D):List D:=(List.range m).map f
@[simp] theorem vk (m f):(bx m f).length=m:=by simp [bx]
theorem qRQ {m:Nat}(f:Nat->D) {j:Nat}(h:j<m):(bx m f)[j]?=some (f j):=by simp [bx,h]
theorem qRg {m:Nat}(f:Nat->D) {j:Nat}(h:j<m):gf (bx m f) (j:Int)=some (f j):=by
 rw [u9,qRQ f h]
theorem qW (m:Nat) (f g:Nat->D):cF (bx m f) (bx m g)=(List.range m).map λj=>.tup [f j,g j]:=by
 unfold bx
 generalize List.range m=l
 induction l with
 | nil=>rfl
 | cons x r ih=>simp only [eB,cF,List.zipWith_cons_cons] at ih ⊢;rw [ih]
noncomputable def aW (ns:List Int) (k:Nat):Int:=(ns[k]?).getD 0
abbrev P2:=Int×Int
noncomputable def bK (p:P2):D:=.tup [.int p.1,.int p.2]
def af (m:Nat) (f:Nat->P2):D:=.tup (bx m λj=>bK (f j))
theorem vi {call:Nat->List D->Option R}{e:C}{m:Nat}{F G:Nat->D}(g:Nat->D)
  (h:∀j,j<m->∃b,aa call [some (false,F j),some (false,G j)] e=some (b,g j)) :
  cL call e [none,none] (.two 0 1) (cF (bx m F) (bx m G))=some (bx m g):=by
 rw [qW]
 exact eN call [none,none] (e:=e) (tg:=.two 0 1) (λj=>.tup [F j,G j]) g (List.range m) λj hj=>by
  obtain⟨b,hb⟩:=h j (zBa.mp hj)
  exact⟨_,b,rfl,hb⟩
theorem hW (p:P2):aH (bK p) (.int 0)=some (false,.int p.1):=rfl
theorem hX (p:P2):aH (bK p) (.int 1)=some (false,.int p.2):=rfl
theorem lT {m j:Nat}(f:Nat->P2) (h:j<m):aH (af m f) (.int (j:Int))=some (false,bK (f j)):=by
 rw [af,zt,qRg _ h];rfl
theorem rK (m:Nat) (f:Nat->P2):iJ (af m f)=some (bx m λj=>bK (f j)):=rfl
theorem rE {call:Nat->List D->Option R}{e:C}{m:Nat}{r:List (Option R)}(f g:Nat->D) (h:∀j:Nat,j<m->∃b,aa call (some (false,f j)::r) e=some (b,g j)) :
  cL call e (none::r) (.one 0) (bx m f)=some (bx m g):=
 eN call (none::r) (e:=e) (tg:=.one 0) f g (List.range m) λj hj=>by
  obtain⟨b,hb⟩:=h j (zBa.mp hj)
  exact⟨_,b,rfl,hb⟩
theorem A4 (xs:List D) (a b:Nat) (h:a<=b):dU xs (some (a:Int)) (some (b:Int))=(xs.drop a).take (b - a):=by
 simp only [dU,gw,cutAt]
 rw [Qm (by omega),Qm (by omega)]
 simp only [jL]
 by_cases h1:a<=xs.length
 ·rw [oX h1]
  by_cases h2:b<=xs.length
  ·rw [oX h2]
  ·rw [mQ (by omega)]
   rw [gO (by simp),gO (by simp;omega)]
 ·rw [mQ (by omega:xs.length<=a),mQ (by omega:xs.length<=b)]
  simp [pf (show xs.length<=a by omega)]
theorem qLr (ns:List Int) (a b:Nat) (h:a<=b):dU (ns.map .int) (some (a:Int)) (some (b:Int))=((ns.drop a).take (b - a)).map .int:=by
 rw [A4 _ _ _ h,<-oV,<-oU]
section
variable {call:Nat->List D->Option R}{Z:En}
theorem bX {o:COp}{a b:C}{x y:D}{r:Option R}(ha:pk Z a (aa call Z a)=some x) (hb:pk Z b (aa call Z b)=some y) (h:dq o x y=r):aa call Z (.cmp o a b)=r:=by
 rw [gD,ha];simp only;rw [hb];exact h
theorem dG {o:BI}{a:C}{x:D}{r:Option R}(ha:pk Z a (aa call Z a)=some x) (h:bZ o [x]=r):aa call Z (.bi o [a])=r:=by
 rw [jZ,kv,ha];exact h
theorem CK {e nl ks tg rs}{r:R}(h:aa call Z (.compR e nl ks tg rs)=some r):pk Z (.compR e nl ks tg rs) (aa call Z (.compR e nl ks tg rs))=some r.2:=by rw [h];rfl
theorem iR {e nl ks tg rs}{r:R}(h:aa call Z (.compS e nl ks tg rs)=some r):pk Z (.compS e nl ks tg rs) (aa call Z (.compS e nl ks tg rs))=some r.2:=by rw [h];rfl
theorem qJ {o as}{r:R}(h:aa call Z (.bi o as)=some r):pk Z (.bi o as) (aa call Z (.bi o as))=some r.2:=by rw [h];rfl
theorem um {a b}{r:R}(h:aa call Z (.ix a b)=some r):pk Z (.ix a b) (aa call Z (.ix a b))=some r.2:=by rw [h];rfl
theorem jQ {a b:C}{x y:D}{r:Option R}(ha:pk Z a (aa call Z a)=some x) (hb:pk Z b (aa call Z b)=some y) (h:aH x y=r):aa call Z (.ix a b)=r:=by
 rw [fI,ha];simp only;rw [hb];exact h
theorem jt {a b:C}{x:Bool}(ha:aa call Z a=some (x,.bl false)):aa call Z (.and a b)=some (false,.bl false):=by
 rw [uE,ha];rfl
theorem hV {a b:C}{x:Bool}{r:Option R}(ha:aa call Z a=some (x,.bl true)) (hb:aa call Z b=r):aa call Z (.and a b)=r:=by
 rw [uE,ha];exact hb
theorem iM {a b:C}{x y:Bool}{p q:Bool}(ha:aa call Z a=some (x,.bl p)) (hb:aa call Z b=some (false,.bl q)):aa call Z (.and a b)=some (false,.bl (p&&q)):=by
 cases p with
 | true=>exact hV ha hb
 | false=>exact jt ha
theorem nP {e:C}{nl:Nat}{ks:List Nat}{tg:Tg}{a b:C}{x y:R}{xs ys zs:List D}{Z':En}(ha:aa call Z a=some x) (hb:aa call Z b=some y) (hx:iJ x.2=some xs) (hy:qo y.2=some ys) (hc:bF Z nl ks=Z') (hf:cL call e Z' tg (cF xs ys)=some zs):aa call Z (.compZ e nl ks tg a b)=some (true,.lst zs):=by
 subst hc
 rw [qJX,ha];simp only;rw [hb];simp only;rw [hx];simp only;rw [hy];simp only;rw [hf]
end
section
variable {call:Nat->List D->Option R}{Z:En}{rest:List S}{z:Option Ou}
theorem qKj {tg:Tg}{rs:List C}{body:List S}{ds its:List D}{r:R}(h:bG call Z rs=some ds) (hr:gY ds=some its) (hf:bC call body tg its Z=some (.rt r)) (k:some (.rt r)=z):ae call Z (.forR tg rs body::rest)=z:=by
 rw [BS,h];simp only;rw [hr];simp only;rw [hf];exact k
theorem qKi {tg:Tg}{src:C}{body:List S}{r:R}{its:List D}{q:R}(h:aa call Z src=some r) (hr:iJ r.2=some its) (hf:bC call body tg its Z=some (.rt q)) (k:some (.rt q)=z):ae call Z (.forS tg src body::rest)=z:=by
 rw [BU,h];simp only;rw [hr];simp only;rw [hf];exact k
theorem nJ {m:Nat}(hs:m<=10000):gY [.int (m:Int)]=some ((List.range m).map λi=>.int (i:Nat)):=AS m hs
theorem AE {p:Nat->Bool}{m i:Nat}{rs:List C}{body:List S}{ds:List D}{r:R}(I:En->Prop) (h:bG call Z rs=some ds) (hr:gY ds=some ((List.range m).map λi=>.int (i:Nat))) (h0:I Z)
  (hT:∀j:Nat,j<m->p j=true->∀Z,I Z->ae call (Z.set i (some (false,.int (j:Nat)))) body=some (.rt r))
  (hF:∀j:Nat,j<m->p j=false->∀Z,I Z->∃Z2,ae call (Z.set i (some (false,.int (j:Nat)))) body=some (.nx Z2)/\I Z2)
  (kT:(List.range m).any p=true->some (.rt r)=z) (kF:(List.range m).any p=false->∀Z',I Z'->ae call Z' rest=z):ae call Z (.forR (.one i) rs body::rest)=z:=by
 obtain⟨a,b⟩:=Dj (call:=call) (tg:=.one i) (body:=body) p r (λi:Nat=>.int (i:Nat)) I (List.range m) Z h0 λj hj Z hZ=>⟨_,rfl,λq=>hT j (zBa.mp hj) q Z hZ,λq=>hF j (zBa.mp hj) q Z hZ⟩
 cases hp:(List.range m).any p with
 | true=>exact qKj h hr (a hp) (kT hp)
 | false =>
  obtain⟨Z',e,h'⟩:=b hp
  exact uQ h hr e (kF hp Z' h')
end
theorem BC (l j:Nat) (h:j<l):ixN l (j:Int)=some j:=by
 unfold ixN;rw [Ql (by omega),Ql (by omega)];simp
end Dw.T
namespace Dw.T
open Dw
abbrev Q4:=Int×Int×Int×Int
def q4 (q:Q4):D:=.tup [.int q.1,.int q.2.1,.int q.2.2.1,.int q.2.2.2]
theorem eW (a b:Int) (h:a.natAbs<2^64):dH a b=true:=Qk (.inr (.inl h))
theorem lp (a b:Int) (h:b.natAbs<2^64):dH a b=true:=Qk (.inr (.inr (.inl h)))
theorem tO (a b:Int) (h:a.natAbs<2^240) (h':b.natAbs<2^240):dH a b=true:=Qk (.inl ⟨h,h'⟩)
theorem qVk (a b:Int) (h:a.natAbs<jX) (h':b.natAbs<jX):dH a b=true:=Qk (.inr (.inr (.inr ⟨h,h'⟩)))
theorem BV:jX=fH * 2^64:=by unfold jX fH;rw [<-Nat.pow_add]
theorem uZ:2^200<=fH:=yf (by decide) (by decide)
def ck (c:Int):Prop:=4 * c.natAbs<jX
theorem Aj {c:Int}(h:2 * c.natAbs<fH) (d:Int) (hd:d.natAbs<=2^60):ck (c+d):=by
 have h1:=BV
 have h2:=uZ
 unfold ck
 omega
theorem tS (b:Int) (h0:b≠0) (h:b.natAbs<2^240):fK b=true:=Qk ⟨h0,.inl h⟩
theorem uf (a m:Int) (h:0<m):0<=a.fmod m/\a.fmod m<m:=by
 rw [yi _ (by omega:0<=m)]
 exact⟨Int.emod_nonneg _ (by omega),Int.emod_lt_of_pos _ h⟩
structure Th where
 hd:Int
 sw:Nat->Int×Int×Int
 mr:Nat
 wo:Int
noncomputable def sD (p:Int×Int×Int):D:=.tup [.int p.1,.int p.2.1,.int p.2.2,.int p.2.2]
def av (m:Nat) (t:Th):D:=.tup [.int t.hd,.tup (bx m λj=>sD (t.sw j)),.int (t.mr:Int),.int t.wo]
theorem yv (m:Nat) (t:Th):aH (av m t) (.int 0)=zF (.int t.hd):=rfl
theorem tH (m:Nat) (t:Th):aH (av m t) (.int 1)=zF (.tup (bx m λj=>sD (t.sw j))):=rfl
noncomputable def ox:Int:=170141183460469231731687303715884105727
theorem gj (a b:Int):bu (.int a) (.int b)=decide (a=b):=by rw [ye];simp
section
variable {call:Nat->List D->Option R}
theorem qPR (ns:List Int) (k:Nat):ae call [zF (.lst (ns.map .int)),zF (.int (k:Int))] f_law_cell_at.body=some (.rt (false,.int (aW ns k))):=by
 by_cases h:k<ns.length
 ·have h1:decide ((k:Int)<((ns.length:Nat):Int))=true:=Qk (by omega)
  refine aU (x:=false) (r:=(false,.int (aW ns k))) (by simp only [gD,pk,ax,cm,bQ,bP,bE,cj,jZ,kv,lX,rL,bA,bS,kh,h1]) ?_ rfl
  refine ao (r:=(false,.int (aW ns k))) (jQ rfl rfl ?_) rfl
  rw [lB]
  unfold gf gI
  rw [bA,BC _ _ h]
  simp [aW,h]
 ·have h1:decide ((k:Int)<((ns.length:Nat):Int))=false:=Qj (by omega)
  have e:aW ns k=0:=by simp [aW,List.getElem?_eq_none (sZ h)]
  refine aq (x:=false) (by simp only [gD,pk,ax,cm,bQ,bP,bE,cj,jZ,kv,lX,rL,bA,bS,kh,h1]) ?_
  rw [e]
  exact ao (r:=(false,.int 0)) rfl rfl
theorem qJh {e:C}{m:Nat}{r:List (Option R)}(g:Nat->D) (h:∀j:Nat,j<m->∃b,aa call (zF (.int (j:Nat))::r) e=some (b,g j)):cL call e (none::r) (.one 0) ((List.range m).map λi=>.int (i:Nat))=some (bx m g):=
 eN call _ (λi:Nat=>.int (i:Nat)) g (List.range m) λj hj=>by
  obtain⟨b,hb⟩:=h j (zBa.mp hj)
  exact⟨_,b,rfl,hb⟩
end
end Dw.T
namespace Dw.T
open Dw
noncomputable def dc (p:Prop):Bool:=@decide p (Classical.propDecidable p)
theorem dc_iff {p:Prop}:dc p=true↔p:=by unfold dc;exact @decide_eq_true_iff p (Classical.propDecidable p)
theorem zg {p:Prop}(h:p):dc p=true:=dc_iff.mpr h
theorem qVw {p:Prop}(h:¬p):dc p=false:=by
 cases e:dc p with
 | false=>rfl
 | true=>exact Qn (dc_iff.mp e) h
abbrev fB:=Option (Int×Int)
def dh:fB->D
 | none=>.non
 | some p=>bK p
def eS:fB->Int->Prop
 | none,_=>False
 | some p,t=>p.1<=t/\t<=p.2
noncomputable def bs (n r a:Int):Int:=if 0<r then max a (-((-n).fdiv r)) else a
def be (n r b:Int):Int:=if r<0 then min b (n.fdiv r) else b
def bo (n r a b:Int):fB:=if r=0/\0<n then none else if be n r b<bs n r a then none else some (bs n r a,be n r b)
theorem qPw {n r t:Int}(h:0<r):-((-n).fdiv r)<=t↔n<=r * t:=by
 rw [yh _ (by omega:0<=r)]
 have h1:-t<=(-n) / r↔-t * r<=-n:=Int.le_ediv_iff_mul_le h
 have h2:-t * r=-(r * t):=by rw [Int.neg_mul,Int.mul_comm]
 rw [h2] at h1
 omega
theorem qRF {n r t:Int}(h:r<0):t<=n.fdiv r↔n<=r * t:=by
 have e:n.fdiv r=(-n).fdiv (-r):=(Int.neg_fdiv_neg n r).symm
 rw [e,yh _ (by omega:0<=-r)]
 have h1:t<=(-n) / (-r)↔t * -r<=-n:=Int.le_ediv_iff_mul_le (by omega)
 have h2:t * -r=-(r * t):=by rw [Int.mul_neg,Int.mul_comm]
 rw [h2] at h1
 omega
theorem bse (n r a b t:Int) (h0:¬(r=0/\0<n)):bs n r a<=t/\t<=be n r b↔a<=t/\t<=b/\n<=r * t:=by
 unfold bs be
 rcases Int.lt_trichotomy r 0 with h|h|h
 ·have:=@qRF n r t h
  rw [Qm (by omega),Ql h]
  omega
 ·subst h
  rw [Qm (by omega),Qm (by omega)]
  simp only [pD]
  omega
 ·have:=@qPw n r t h
  rw [Ql h,Qm (by omega)]
  omega
theorem qT4 (n r a b t:Int):eS (bo n r a b) t↔a<=t/\t<=b/\n<=r * t:=by
 unfold bo
 by_cases h0:r=0/\0<n
 ·rw [Ql h0]
  obtain⟨rfl,h0⟩:=h0
  simp only [eS,pD,false_iff]
  omega
 ·rw [Qm h0,<-bse n r a b t h0]
  by_cases hlt:be n r b<bs n r a
  ·rw [Ql hlt]
   simp only [eS,false_iff]
   omega
  ·rw [Qm hlt]
   exact Iff.rfl
theorem qT3 {n r a b:Int}{p:Int×Int}(h:bo n r a b=some p):eS (some p) p.1:=by
 unfold bo at h
 by_cases h0:r=0/\0<n
 ·rw [Ql h0] at h;cases h
 ·rw [Qm h0] at h
  by_cases h2:be n r b<bs n r a
  ·rw [Ql h2] at h;cases h
  ·rw [Qm h2] at h
   cases h
   simp only [eS]
   omega
def bb (a b:Q4):fB->fB
 | none=>none
 | some p=>bo (a.1 - b.2.1) (b.2.2.2 - a.2.2.1) p.1 p.2
theorem zj (a b:Q4) (s:fB) (t:Int):eS (bb a b s) t↔eS s t/\a.1 - b.2.1<=(b.2.2.2 - a.2.2.1) * t:=by
 cases s with
 | none=>simp [bb,eS]
 | some p =>
  show eS (bo _ _ p.1 p.2) t↔(p.1<=t/\t<=p.2)/\_
  rw [qT4]
  exact and_assoc.symm
theorem qT9 {a b:Q4}{s:fB}{p:Int×Int}(h:bb a b s=some p):eS (some p) p.1:=by
 cases s with
 | none=>cases h
 | some q=>exact qT3 h
def mt (x y:Nat->Q4):Nat->fB->fB
 | 0,s=>s
 | k+1,s=>bb (y k) (x k) (bb (x k) (y k) (mt x y k s))
def ml (x y:Q4) (t:Int):Prop:=x.1 - y.2.1<=(y.2.2.2 - x.2.2.1) * t
theorem zM (x y:Nat->Q4) (s:fB) (t:Int):∀k,eS (mt x y k s) t↔eS s t/\∀j,j<k->ml (x j) (y j) t/\ml (y j) (x j) t
 | 0=>by simp [mt]
 | k+1=>by
  show eS (bb _ _ (bb _ _ (mt x y k s))) t↔_
  rw [zj,zj,zM x y s t k]
  constructor
  ·rintro⟨⟨⟨h1,h2⟩,h3⟩,h4⟩
   refine⟨h1,λj hj=>?_⟩
   by_cases e:j=k
   ·subst e;exact⟨h3,h4⟩
   ·exact h2 j (by omega)
  ·rintro⟨h1,h2⟩
   exact⟨⟨⟨h1,λj hj=>h2 j (by omega)⟩,(h2 k (by omega)).1⟩,(h2 k (by omega)).2⟩
theorem qTt {x y:Nat->Q4}{s:fB}{k:Nat}{p:Int×Int}(h:mt x y (k+1) s=some p):eS (some p) p.1:=qT9 h
def Pm (m:Nat) (c:Nat->Q4) (f:Nat->P2) (t:Int):Prop:=∀j,j<m->(c j).1+(c j).2.2.1 * t<=(f j).2/\(f j).1<=(c j).2.1+(c j).2.2.2 * t
def Cm (m:Nat) (c:Nat->Q4) (f:Nat->P2) (a b:Int):Prop:=∃t,a<=t/\t<=b/\Pm m c f t
noncomputable def eG (p:P2):Q4:=(p.1,p.2,0,0)
theorem fO (c:Q4) (p:P2) (t:Int):ml c (eG p) t↔c.1+c.2.2.1 * t<=p.2:=by
 unfold ml eG
 rw [Int.sub_mul]
 simp only [pD]
 omega
theorem vP (c:Q4) (p:P2) (t:Int):ml (eG p) c t↔p.1<=c.2.1+c.2.2.2 * t:=by
 unfold ml eG
 rw [Int.sub_mul]
 simp only [pD]
 omega
theorem qOv (m:Nat) (hm:0<m) (c:Nat->Q4) (f:Nat->P2) (a b:Int):(mt c (λj=>eG (f j)) m (some (a,b))).isSome=dc (Cm m c f a b):=by
 have key:∀t,eS (mt c (λj=>eG (f j)) m (some (a,b))) t↔(a<=t/\t<=b)/\Pm m c f t:=λt=>by
  rw [zM]
  simp only [eS,fO,vP]
  rfl
 cases e:mt c (λj=>eG (f j)) m (some (a,b)) with
 | none =>
  refine (qVw ?_).symm
  rintro⟨t,h1,h2,h3⟩
  have:=(key t).mpr ⟨⟨h1,h2⟩,h3⟩
  rw [e] at this
  exact this
 | some p =>
  refine (zg ?_).symm
  obtain⟨k,rfl⟩:∃k,m=k+1:=⟨m - 1,by omega⟩
  have h:=qTt e
  rw [<-e] at h
  obtain⟨⟨h1,h2⟩,h3⟩:=(key p.1).mp h
  exact⟨p.1,h1,h2,h3⟩
noncomputable def aP (u:Th) (j:Nat):Q4:=((u.sw j).1,(u.sw j).2.1,(u.sw j).2.2,(u.sw j).2.2)
end Dw.T
namespace Dw.T
open Dw
section
variable {call:Nat->List D->Option R}
theorem qNl {Z:En}{rest:List S}{z:Option Ou}{tg:Tg}{a b:C}{body:List S}{x y:R}{xs ys:List D}{Z':En}(ha:aa call Z a=some x) (hb:aa call Z b=some y) (hx:iJ x.2=some xs) (hy:qo y.2=some ys) (hf:bC call body tg (cF xs ys) Z=some (.nx Z')) (k:ae call Z' rest=z):ae call Z (.forZ tg a b body::rest)=z:=by
 rw [qMQ,ha];simp only;rw [hb];simp only;rw [hx];simp only;rw [hy];simp only;rw [hf];exact k
theorem B3 (n r a b:Int) (hr:r.natAbs<2^100):ae call [zF (.int n),zF (.int r),zF (.int a),zF (.int b),none,none] f_beats_of.body=some (.rt (false,dh (bo n r a b))):=by
 by_cases h0:r=0/\0<n
 ·have e:bo n r a b=none:=by unfold bo;rw [Ql h0]
  obtain⟨rfl,h1⟩:=h0
  have d1:decide (0<n)=true:=Qk h1
  rw [e]
  exact aU (x:=false) (by simp [d1]) (ao rfl rfl) rfl
 ·have d0:aa call [zF (.int n),zF (.int r),zF (.int a),zF (.int b),none,none] (.and (.cmp .eq V1 (kI 0)) (.cmp .gt V0 (kI 0)))=zF (.bl false):=by
   by_cases hz:r=0
   ·subst hz
    have d1:decide (0<n)=false:=Qj (by omega)
    simp [d1]
   ·have d1:bu (.int r) (.int 0)=false:=by simp [hz]
    simp only [uE,gD,pk,ax,cm,bQ,bP,bE,cj,cQ,bS,n0,d1,reduceCtorEq,↓reduceIte]
  refine aq d0 ?_
  refine ay _ rfl ?_
  refine ay _ rfl ?_
  have fin:ae call [zF (.int n),zF (.int r),zF (.int a),zF (.int b),zF (.int (bs n r a)),zF (.int (be n r b))] (f_beats_of.body.drop 5)=some (.rt (false,dh (bo n r a b))):=by
   unfold bo
   rw [Qm h0]
   by_cases hlt:be n r b<bs n r a
   ·rw [Ql hlt]
    have d1:decide (be n r b<bs n r a)=true:=Qk hlt
    exact aU (x:=false) (by simp [d1]) (ao rfl rfl) rfl
   ·rw [Qm hlt]
    have d1:decide (be n r b<bs n r a)=false:=Qj hlt
    refine aq (x:=false) (by simp [d1]) ?_
    exact ao rfl rfl
  rcases Int.lt_trichotomy r 0 with h|h|h
  ·have d1:decide (0<r)=false:=Qj (by omega)
   have d2:decide (r<0)=true:=Qk h
   have dv:=tS r (by omega) (by omega)
   have e1:bs n r a=a:=by unfold bs;rw [Qm (by omega)]
   have e2:be n r b=min b (n.fdiv r):=by unfold be;rw [Ql h]
   rw [e1,e2] at fin
   refine aq (x:=false) (by simp [d1]) ?_
   refine fY (x:=false) (by simp [d2]) (ay (false,.int (min b (n.fdiv r))) (by simp [dv]) rfl) fin
  ·have d1:decide (0<r)=false:=Qj (by omega)
   have d2:decide (r<0)=false:=Qj (by omega)
   have e1:bs n r a=a:=by unfold bs;rw [Qm (by omega)]
   have e2:be n r b=b:=by unfold be;rw [Qm (by omega)]
   rw [e1,e2] at fin
   refine aq (x:=false) (by simp [d1]) ?_
   refine aq (x:=false) (by simp [d2]) fin
  ·have d1:decide (0<r)=true:=Qk h
   have d2:decide (r<0)=false:=Qj (by omega)
   have dv:=tS r (by omega) (by omega)
   have e1:bs n r a=max a (-((-n).fdiv r)):=by unfold bs;rw [Ql h]
   have e2:be n r b=b:=by unfold be;rw [Qm (by omega)]
   rw [e1,e2] at fin
   refine fY (x:=false) (by simp [d1]) (ay (false,.int (max a (-((-n).fdiv r)))) (by simp [dv]) rfl) ?_
   refine aq (x:=false) (by simp [d2]) fin
theorem ou (q:Q4):aH (q4 q) (.int 0)=zF (.int q.1):=rfl
theorem ot (q:Q4):aH (q4 q) (.int 1)=zF (.int q.2.1):=rfl
theorem oq (q:Q4):aH (q4 q) (.int 2)=zF (.int q.2.2.1):=rfl
theorem om (q:Q4):aH (q4 q) (.int 3)=zF (.int q.2.2.2):=rfl
theorem B4 (a b:Q4) (s:fB) (hr:(b.2.2.2 - a.2.2.1).natAbs<2^100) (B:∀n r a b:Int,r.natAbs<2^100->call 38 [.int n,.int r,.int a,.int b]=zF (dh (bo n r a b))) :
  ae call [zF (q4 a),zF (q4 b),zF (dh s)] f_beats_below.body=some (.rt (false,dh (bb a b s))):=by
 cases s with
 | none=>exact aU rfl (ao rfl rfl) rfl
 | some p =>
  have q:=B (a.1 - b.2.1) (b.2.2.2 - a.2.2.1) p.1 p.2 hr
  refine aq rfl ?_
  exact ao (by simp only [dh];simp [ou,ot,om,oq,hW,hX,q];rfl) rfl
theorem qHB (m:Nat) (x y:Nat->Q4) (a b:Int) (hs:∀j,j<m->((y j).2.2.2 - (x j).2.2.1).natAbs<2^100/\((x j).2.2.2 - (y j).2.2.1).natAbs<2^100)
  (B:∀(a b:Q4) (s:fB),(b.2.2.2 - a.2.2.1).natAbs<2^100->call 39 [q4 a,q4 b,dh s]=zF (dh (bb a b s))) :
  ae call [zF (.tup (bx m λj=>q4 (x j))),zF (.tup (bx m λj=>q4 (y j))),zF (.int a),zF (.int b),none,none,none] f_meeting.body=some (.rt (false,dh (mt x y m (some (a,b))))):=by
 refine ay _ rfl ?_
 obtain⟨Z',h',hZ⟩:=rD (tg:=.two 5 6) (body:=x9) (λk Z=>∃o5 o6:Option R,Z=[zF (.tup (bx m λj=>q4 (x j))),zF (.tup (bx m λj=>q4 (y j))),zF (.int a),zF (.int b),zF (dh (mt x y k (some (a,b)))),o5,o6]) m (λj=>.tup [q4 (x j),q4 (y j)])
  [zF (.tup (bx m λj=>q4 (x j))),zF (.tup (bx m λj=>q4 (y j))),zF (.int a),zF (.int b),zF (bK (a,b)),none,none] ⟨_,_,rfl⟩ (by
   rintro k Z hk ⟨o5,o6,rfl⟩
   obtain⟨h1,h2⟩:=hs k hk
   have q1:=B (x k) (y k) (mt x y k (some (a,b))) h1
   have q2:=B (y k) (x k) (bb (x k) (y k) (mt x y k (some (a,b)))) h2
   refine⟨_,_,rfl,?_,zF (q4 (x k)),zF (q4 (y k)),rfl⟩
   refine ay _ q1 ?_
   exact ay _ q2 rfl)
 obtain⟨o5,o6,rfl⟩:=hZ
 rw [<-qW] at h'
 refine qNl rfl rfl rfl rfl h' ?_
 exact ao rfl rfl
theorem qM2 (m:Nat) (f:Nat->P2):ae call [zF (af m f)] f_still_swath.body=some (.rt (false,.tup (bx m λj=>q4 (eG (f j))))):=by
 have hc:=hU (call:=call) (Z:=[zF (af m f)]) (e:=(.tup [(.ix V0 (kI 0)),(.ix V0 (kI 1)),(kI 0),(kI 0)])) (nl:=1) (ks:=[]) (src:=.v 0) rfl (rK m f) rfl
  (rE (λj=>bK (f j)) (λj=>q4 (eG (f j))) λj hj=>⟨false,by simp only [zAq,ax,sy,eQ,dB,fI,pk,bQ,bP,bE,cj,cQ,bS,hW,hX,eh,cI,eC,Nat.reduceAdd,qVl,↓reduceIte];rfl⟩)
 exact ao (dG (by show (aa call _ _).map (·.2)=_;rw [hc];rfl) rfl) rfl
theorem qNd (m:Nat) (hm:0<m) (c:Nat->Q4) (f:Nat->P2) (a b:Int) (C4:call 4 [af m f]=zF (.tup (bx m λj=>q4 (eG (f j)))))
  (C3:call 40 [.tup (bx m λj=>q4 (c j)),.tup (bx m λj=>q4 (eG (f j))),.int a,.int b]=zF (dh (mt c (λj=>eG (f j)) m (some (a,b))))) :
  ae call [zF (.tup (bx m λj=>q4 (c j))),zF (af m f),zF (.int a),zF (.int b)] f_crosses_box.body=some (.rt (false,.bl (dc (Cm m c f a b)))):=by
 have e:DY true (dh (mt c (λj=>eG (f j)) m (some (a,b)))) .non=zF (.bl (dc (Cm m c f a b))):=by
  rw [<-qOv m hm]
  cases mt c (λj=>eG (f j)) m (some (a,b))<;>rfl
 exact ao (by simp [C4,C3,e]) rfl
end
end Dw.T
namespace Dw.T
open Dw
def xU (q:Int×Int×Int):Prop:=(-(10^31)<=q.1/\q.1<=10^31)/\(-(10^31)<=q.2.1/\q.2.1<=10^31)/\(-(10^15)<=q.2.2/\q.2.2<=10^15)
theorem Ae {a b A B:Int}(h:-A<=a/\a<=A) (h':0<=b/\b<=B) (hA:0<=A):-(A * B)<=a * b/\a * b<=A * B:=by
 have h1:a * b<=A * b:=pv h.2 h'.1
 have h2:(-A) * b<=a * b:=pv h.1 h'.1
 have h3:A * b<=A * B:=Int.mul_le_mul_of_nonneg_left h'.2 hA
 rw [Int.neg_mul] at h2
 omega
def cg (t:Th):Prop:=(∀j,xU (t.sw j))/\t.mr<65536
inductive At where
 | any|meets (f:Nat->P2)|inside (f:Nat->P2)|holds (f:Nat->P2)|near (f:Nat->P2) (r:Int)|marked (k:Nat)|touched (k:Nat)|crosses (f:Nat->P2) (a b:Int)|worthy (w:Int)
def cf (m:Nat):At->D
 | .any=>.tup [tx "anything"]
 | .meets f=>.tup [tx "meets",af m f]
 | .inside f=>.tup [tx "inside",af m f]
 | .holds f=>.tup [tx "holds",af m f]
 | .near f r=>.tup [tx "near",af m f,.int r]
 | .marked k=>.tup [tx "marked",.int (k:Int)]
 | .touched k=>.tup [tx "touched",.int (k:Int)]
 | .crosses f a b=>.tup [tx "crosses",af m f,.int a,.int b]
 | .worthy w=>.tup [tx "worthy",.int w]
def BdA (q:P2):Prop:=(-(10^32)<=q.1/\q.1<=10^32)/\(-(10^32)<=q.2/\q.2<=10^32)
def iE:At->Prop
 | .any=>True
 | .meets f=>∀j,BdA (f j)
 | .inside f=>∀j,BdA (f j)
 | .holds f=>∀j,BdA (f j)
 | .near f _=>∀j,BdA (f j)
 | .marked _=>True
 | .touched _=>True
 | .crosses f a b=>(∀j,BdA (f j))/\(0<=a/\a<=10^15)/\(0<=b/\b<=10^15)
 | .worthy _=>True
noncomputable def kn (c:Nat) (l:List String):Kn:=⟨c,l.map Qa⟩
def pL (m:Nat):At->Kn×List D
 | .any=>(⟨387,[]⟩,[])
 | .meets f=>(⟨427,[Qa "box"]⟩,[af m f])
 | .inside f=>(⟨467,[Qa "box"]⟩,[af m f])
 | .holds f=>(⟨507,[Qa "box"]⟩,[af m f])
 | .near f r=>(⟨547,[Qa "box",Qa "far"]⟩,[af m f,.int r])
 | .marked k=>(⟨587,[Qa "marks"]⟩,[.int (k:Int)])
 | .touched k=>(⟨627,[Qa "marks"]⟩,[.int (k:Int)])
 | .crosses f a b=>(⟨667,[Qa "box",Qa "first",Qa "last"]⟩,[af m f,.int a,.int b])
 | .worthy w=>(⟨707,[Qa "least"]⟩,[.int w])
end Dw.T
namespace Dw.T
open Dw
abbrev Fr:=Nat->Q4
def bp (m:Nat) (c:Fr):D:=.tup (bx m λj=>q4 (c j))
noncomputable def qA (c:Fr) (t:Int) (j:Nat):P2:=((c j).1+(c j).2.2.1 * t,(c j).2.1+(c j).2.2.2 * t)
def iY (q:Q4):Prop:=(-(10^31)<=q.1/\q.1<=10^31)/\(-(10^31)<=q.2.1/\q.2.1<=10^31)/\(-(10^15)<=q.2.2.1/\q.2.2.1<=10^15)/\(-(10^15)<=q.2.2.2/\q.2.2.2<=10^15)
def jO (c:Fr):Prop:=∀j,iY (c j)
def sm (p q:P2):Bool:=decide (p.1<=q.2)&&decide (q.1<=p.2)
def si (p q:P2):Bool:=decide (q.1<=p.1)&&decide (p.2<=q.2)
def gp (p q:P2):Int:=max (max 0 (p.1 - q.2)) (q.1 - p.2)
def fA (m:Nat) (g f:Nat->P2):Bool:=(List.range m).all λj=>sm (g j) (f j)
def eT (m:Nat) (g f:Nat->P2):Bool:=(List.range m).all λj=>si (g j) (f j)
def bN (m:Nat) (g f:Nat->P2):Int:=((List.range m).map λj=>gp (g j) (f j) * gp (g j) (f j)).sum
theorem Au (m:Nat) (p:Nat->Bool):bZ .all [.lst (bx m λj=>.bl (p j))]=zF (.bl ((List.range m).all p)):=by
 rw [qPa,show (bx m λj=>D.bl (p j))=(List.range m).map λj=>.bl (p j) from rfl,rB]
 simp [List.all_map,Function.comp_def]
theorem qPX (m:Nat) (p:Nat->Int):bZ .sum [.lst (bx m λj=>.int (p j))]=zF (.int ((List.range m).map p).sum):=by
 rw [qO9,show (bx m λj=>D.int (p j))=(List.range m).map λj=>.int (p j) from rfl,vI]
 rfl
def cH (q:P2):Prop:=(-(10^33)<=q.1/\q.1<=10^33)/\(-(10^33)<=q.2/\q.2<=10^33)
theorem BdA.b {q:P2}(h:BdA q):cH q:=by unfold BdA at h;unfold cH;omega
theorem jY {c:Fr}(hc:jO c) {t:Int}(ht:0<=t/\t<=10^15) (j:Nat):cH (qA c t j):=by
 have h:=hc j
 unfold iY at h
 have h1:=Ae (A:=10^15) (B:=10^15) h.2.2.1 ht (by decide)
 have h2:=Ae (A:=10^15) (B:=10^15) h.2.2.2 ht (by decide)
 show (-(10^33)<=(c j).1+(c j).2.2.1 * t/\(c j).1+(c j).2.2.1 * t<=10^33)/\(-(10^33)<=(c j).2.1+(c j).2.2.2 * t/\(c j).2.1+(c j).2.2.2 * t<=10^33)
 omega
theorem zo {p q:P2}(hp:cH p) (hq:cH q):(gp p q).natAbs<2^200:=by
 unfold cH at hp hq
 unfold gp
 omega
section
variable {call:Nat->List D->Option R}
theorem yV (p q:P2):ae call [zF (bK p),zF (bK q)] f_sides_meet.body=some (.rt (false,.bl (sm p q))):=by
 refine ao (iM (x:=false) (y:=false) ?_ ?_) rfl
 ·simp [hW,hX]
 ·simp [hW,hX]
theorem yU (p q:P2):ae call [zF (bK p),zF (bK q)] f_side_inside.body=some (.rt (false,.bl (si p q))):=by
 refine ao (iM (x:=false) (y:=false) ?_ ?_) rfl
 ·simp [hW]
 ·simp [hX]
theorem t7 (p q:P2):ae call [zF (bK p),zF (bK q)] f_side_gap.body=some (.rt (false,.int (gp p q))):=
 ao (by simp only [gy,jZ,kv,pk,cQ,bS,eO,fI,ax,bQ,bP,bE,cj,hW,cm,hX,rM,lX,qLD];rfl) rfl
theorem yP (m:Nat) (g f:Nat->P2) (C1:∀p q,call 30 [bK p,bK q]=zF (.bl (sm p q))):ae call [zF (af m g),zF (af m f)] f_boxes_meet.body=some (.rt (false,.bl (fA m g f))):=by
 have hc:=nP (call:=call) (Z:=[zF (af m g),zF (af m f)]) (e:=(.call 30 [V0,V1])) (nl:=2) (ks:=[]) (a:=.v 0) (b:=.v 1) rfl rfl (rK m g) rfl rfl
  (vi (F:=λj=>bK (g j)) (G:=λj=>bK (f j)) (λj=>.bl (sm (g j) (f j))) λj hj=>⟨false,by have:=C1 (g j) (f j);simp [this]⟩)
 exact ao (dG (by show (aa call _ _).map (·.2)=_;rw [hc];rfl) (Au m _)) rfl
theorem yO (m:Nat) (g f:Nat->P2) (C2:∀p q,call 31 [bK p,bK q]=zF (.bl (si p q))):ae call [zF (af m g),zF (af m f)] f_box_inside.body=some (.rt (false,.bl (eT m g f))):=by
 have hc:=nP (call:=call) (Z:=[zF (af m g),zF (af m f)]) (e:=(.call 31 [V0,V1])) (nl:=2) (ks:=[]) (a:=.v 0) (b:=.v 1) rfl rfl (rK m g) rfl rfl
  (vi (F:=λj=>bK (g j)) (G:=λj=>bK (f j)) (λj=>.bl (si (g j) (f j))) λj hj=>⟨false,by have:=C2 (g j) (f j);simp [this]⟩)
 exact ao (dG (by show (aa call _ _).map (·.2)=_;rw [hc];rfl) (Au m _)) rfl
theorem t6 (m:Nat) (g f:Nat->P2) (hg:∀j,cH (g j)) (hf:∀j,cH (f j)) (C3:∀p q,call 32 [bK p,bK q]=zF (.int (gp p q))):ae call [zF (af m g),zF (af m f),none] f_box_gap.body=some (.rt (false,.int (bN m g f))):=by
 have hc:=nP (call:=call) (Z:=[zF (af m g),zF (af m f),none]) (e:=(.call 32 [V0,V1])) (nl:=2) (ks:=[]) (a:=.v 0) (b:=.v 1) rfl rfl (rK m g) rfl rfl
  (vi (F:=λj=>bK (g j)) (G:=λj=>bK (f j)) (λj=>.int (gp (g j) (f j))) λj hj=>⟨false,by have:=C3 (g j) (f j);simp [this]⟩)
 refine ay _ hc ?_
 have hd:=hU (call:=call) (Z:=[zF (af m g),zF (af m f),zF (.lst (bx m λj=>.int (gp (g j) (f j))))]) (e:=(.bin .mul V0 V0)) (nl:=1) (ks:=[]) (src:=.v 2) rfl rfl rfl
  (rE (λj=>.int (gp (g j) (f j))) (λj=>.int (gp (g j) (f j) * gp (g j) (f j))) λj hj=>⟨false,by
   have:=zo (hg j) (hf j)
   have m1:=tO (gp (g j) (f j)) (gp (g j) (f j)) (by omega) (by omega)
   simp [m1]⟩)
 exact ao (dG (iR hd) (qPX m _)) rfl
theorem yT (q:Q4) (t:Int) (ht:t.natAbs<2^64):ae call [zF (q4 q),zF (.int t)] f_side_at.body=some (.rt (false,bK (q.1+q.2.2.1 * t,q.2.1+q.2.2.2 * t))):=by
 have m1:=lp q.2.2.1 t ht
 have m2:=lp q.2.2.2 t ht
 exact ao (by simp only [gy,eQ,dB,eO,pk,fI,ax,bQ,bP,bE,cj,cQ,bS,ou,oq,cm,nX,m1,↓reduceIte,iQ,ot,om,m2,eh,cI,eC,Nat.reduceAdd,jT];rfl) rfl
theorem yQ (m:Nat) (c:Fr) (t:Int) (C10:∀q:Q4,call 1 [q4 q,.int t]=zF (bK (q.1+q.2.2.1 * t,q.2.1+q.2.2.2 * t))):ae call [zF (bp m c),zF (.int t)] f_frame_at.body=some (.rt (false,af m (qA c t))):=by
 have hc:=hU (call:=call) (Z:=[zF (bp m c),zF (.int t)]) (e:=(.call 1 [V0,V1])) (nl:=1) (ks:=[1]) (src:=.v 0) rfl rfl rfl
  (rE (λj=>q4 (c j)) (λj=>bK (qA c t j)) λj hj=>⟨false,by have:=C10 (c j);simp [this];rfl⟩)
 exact ao (dG (iR hc) rfl) rfl
theorem qRK (m:Nat) (c:Fr) (f:Nat->P2) (a b:Int):((List.range (b+1 - a).toNat).any λi=>fA m (qA c (a+(i:Nat))) f)=dc (Cm m c f a b):=by
 rw [ye,dc_iff,mW]
 unfold Cm
 constructor
 ·rintro⟨i,hi,h⟩
  have hi:=zBa.mp hi
  refine⟨a+(i:Nat),by omega,by omega,λj hj=>?_⟩
  have:=zBd.mp h j (zBa.mpr hj)
  unfold sm qA at this
  simp only [jF,decide_eq_true_eq] at this
  exact this
 ·rintro⟨t,h1,h2,h3⟩
  refine⟨(t - a).toNat,zBa.mpr (by omega),?_⟩
  rw [show a+(((t - a).toNat:Nat):Int)=t by omega]
  refine zBd.mpr λj hj=>?_
  have:=h3 j (zBa.mp hj)
  unfold sm qA
  simp only [jF,decide_eq_true_eq]
  exact this
end
end Dw.T
namespace Dw.T
open Dw
def iy (m:Nat) (a:At) (c:Fr) (x:Nat) (wo:Int) (t:Int):Bool:=match a with
 | .any=>true
 | .meets f=>fA m (qA c t) f
 | .inside f=>eT m (qA c t) f
 | .holds f=>eT m f (qA c t)
 | .near f r=>decide (bN m (qA c t) f<=r)
 | .marked k=>decide (((x &&& k:Nat):Int)=(k:Int))
 | .touched k=>!decide (((x &&& k:Nat):Int)=0)
 | .crosses f a b=>dc (Cm m c f a b)
 | .worthy w=>decide (w<=wo)
section
variable {call:Nat->List D->Option R}
theorem yR (x k:Nat):ae call [zF (.int (x:Int)),zF (.int (k:Int))] f_has_each.body=some (.rt (false,.bl (decide (((x &&& k:Nat):Int)=(k:Int))))):=by
 have n1:(0:Int)<=(x:Int):=by omega
 have n2:(0:Int)<=(k:Int):=by omega
 exact ao (r:=(false,.bl (decide (((x &&& k:Nat):Int)=(k:Int))))) rfl rfl
theorem yS (x k:Nat):ae call [zF (.int (x:Int)),zF (.int (k:Int))] f_has_one.body=some (.rt (false,.bl (!decide (((x &&& k:Nat):Int)=0)))):=by
 have n1:(0:Int)<=(x:Int):=by omega
 have n2:(0:Int)<=(k:Int):=by omega
 exact ao (r:=(false,.bl (!decide (((x &&& k:Nat):Int)=0)))) rfl rfl
end
end Dw.T
namespace Dw.T
open Dw
structure To where
 cov:Fr
 hrt:Fr
 so:Nat
 ev:Nat
 n:Int
 lo:Int
 hi:Int
 su:Int
def aJ (m:Nat) (o:To):D:=.tup [bp m o.cov,bp m o.hrt,.int (o.so:Int),.int (o.ev:Int),.int o.n,.int o.lo,.int o.hi,.int o.su]
theorem to0 (m:Nat) (o:To):aH (aJ m o) (.int 0)=zF (bp m o.cov):=rfl
theorem to1 (m:Nat) (o:To):aH (aJ m o) (.int 1)=zF (bp m o.hrt):=rfl
theorem to2 (m:Nat) (o:To):aH (aJ m o) (.int 2)=zF (.int (o.so:Int)):=rfl
theorem to3 (m:Nat) (o:To):aH (aJ m o) (.int 3)=zF (.int (o.ev:Int)):=rfl
theorem to5 (m:Nat) (o:To):aH (aJ m o) (.int 5)=zF (.int o.lo):=rfl
theorem to6 (m:Nat) (o:To):aH (aJ m o) (.int 6)=zF (.int o.hi):=rfl
def dJ (c h:Q4):Prop:=c.1<=h.1/\h.2.1<=c.2.1/\c.2.2.1<=h.2.2.1/\h.2.2.2<=c.2.2.2
structure ToOk (o:To):Prop where
 cov:jO o.cov
 hrt:jO o.hrt
 le:∀j,dJ (o.cov j) (o.hrt j)
 mr:o.ev &&& o.so=o.ev
 wo:o.lo<=o.hi
inductive Wd where|ev|no|op
 deriving DecidableEq
def ba:Wd->D
 | .ev=>tx "every"
 | .no=>tx "none"
 | .op=>tx "open"
noncomputable def kH (a:At) (o:To):Fr:=match a with
 | .inside _=>o.cov
 | _=>o.hrt
noncomputable def out (a:At) (o:To):Fr:=match a with
 | .inside _=>o.hrt
 | _=>o.cov
def pK (p q:Bool):Wd:=if q then (if p then .ev else .op) else .no
def vf (p q:Bool):Wd:=if p then .ev else if q then .no else .op
theorem qSI {p q:Bool}(h:p=true->q=true):vf p (!q)=pK p q:=by cases p<;>cases q<;>first|rfl|exact Qn (h rfl) (by decide)
def pJ (m:Nat) (a:At) (o:To) (t:Int):Wd:=pK (iy m a (kH a o) o.ev o.lo t) (iy m a (out a o) o.so o.hi t)
theorem uo {c h:Fr}{j:Nat}{t:Int}(le:dJ (c j) (h j)) (ht:0<=t):(qA c t j).1<=(qA h t j).1/\(qA h t j).2<=(qA c t j).2:=by
 obtain⟨l1,l2,l3,l4⟩:=le
 have a:=pv l3 ht
 have b:=pv l4 ht
 unfold qA
 exact⟨Int.add_le_add l1 a,Int.add_le_add l2 b⟩
theorem vd {m:Nat}{p q:Nat->Bool}(h:∀j,p j=true->q j=true) (hp:(List.range m).all p=true):(List.range m).all q=true:=
 zBd.mpr λj hj=>h j (zBd.mp hp j hj)
theorem vx {f g:Nat->Int}:∀l:List Nat,(∀j,f j<=g j)->(l.map f).sum<=(l.map g).sum
 | [],_=>iZ _
 | x::r,h=>by
  rw [eB,eB,List.sum_cons,List.sum_cons]
  exact Int.add_le_add (h x) (vx r h)
theorem mono (m:Nat) (a:At) (o:To) (ok:ToOk o) (t:Int) (ht:0<=t) (ha:iE a):iy m a (kH a o) o.ev o.lo t=true->iy m a (out a o) o.so o.hi t=true:=by
 have le:=λj=>uo (ok.le j) ht
 cases a with
 | any=>exact λ_=>rfl
 | meets f =>
  refine vd λj h=>?_
  have:=le j
  unfold sm at h ⊢
  simp only [jF,decide_eq_true_eq] at h ⊢
  simp only [kH,out] at h ⊢
  omega
 | inside f =>
  refine vd λj h=>?_
  have:=le j
  unfold si at h ⊢
  simp only [jF,decide_eq_true_eq] at h ⊢
  simp only [kH,out] at h ⊢
  omega
 | holds f =>
  refine vd λj h=>?_
  have:=le j
  unfold si at h ⊢
  simp only [jF,decide_eq_true_eq] at h ⊢
  simp only [kH,out] at h ⊢
  omega
 | near f r =>
  intro h
  have h:=Qp (show decide (bN m (qA o.hrt t) f<=r)=true from h)
  refine Qk (kW ?_ h)
  refine vx _ λj=>?_
  have:=le j
  have g1:gp (qA o.cov t j) (f j)<=gp (qA o.hrt t j) (f j):=by unfold gp;omega
  have g0:0<=gp (qA o.cov t j) (f j):=by unfold gp;omega
  exact pE g1 g1 g0 (kW g0 g1)
 | marked k =>
  intro h
  have h:o.ev &&& k=k:=Int.ofNat_inj.mp (Qp (show decide (((o.ev &&& k:Nat):Int)=(k:Int))=true from h))
  refine Qk ?_
  have e:o.so &&& k=k:=by
   rw [<-h,<-Nat.and_assoc,Nat.and_comm o.so,ok.mr]
  rw [e]
 | touched k =>
  intro h
  have h:¬((o.ev &&& k:Nat):Int)=0:=by
   have h:(!decide (((o.ev &&& k:Nat):Int)=0))=true:=h
   simpa using h
  have g:¬((o.so &&& k:Nat):Int)=0:=λz=>h (by
   have z:o.so &&& k=0:=by omega
   rw [<-ok.mr,Nat.and_assoc,z,Nat.and_zero]
   rfl)
  show (!decide (((o.so &&& k:Nat):Int)=0))=true
  rw [Qj g]
  rfl
 | crosses f a b =>
  intro h
  obtain⟨t',h1,h2,h3⟩:=dc_iff.mp (show dc (Cm m o.hrt f a b)=true from h)
  refine zg (p:=Cm m o.cov f a b) ⟨t',h1,h2,λj hj=>?_⟩
  have:=h3 j hj
  have q:=uo (ok.le j) (t:=t') (by have:=ha.2.1;omega)
  unfold qA at q
  simp only at q
  omega
 | worthy w =>
  intro h
  have h:=Qp (show decide (w<=o.lo)=true from h)
  exact Qk (kW h ok.wo)
section
variable {call:Nat->List D->Option R}
theorem qk (p q:Bool):ae call [zF (.bl p),zF (.bl q)] f_verdict_from.body=some (.rt (false,ba (vf p q))):=by
 cases p<;>cases q<;>rfl
structure On (call:Nat->List D->Option R) (m:Nat) (o:To) (t:Int):Prop where
 bm:∀g f:Nat->P2,call 33 [af m g,af m f]=zF (.bl (fA m g f))
 bi:∀g f:Nat->P2,call 34 [af m g,af m f]=zF (.bl (eT m g f))
 bg:∀g f:Nat->P2,(∀j,cH (g j))->(∀j,cH (f j))->call 35 [af m g,af m f]=zF (.int (bN m g f))
 tc:call 13 [aJ m o]=zF (bp m o.cov)
 th:call 14 [aJ m o]=zF (bp m o.hrt)
 so:call 15 [aJ m o]=zF (.int (o.so:Int))
 ev:call 16 [aJ m o]=zF (.int (o.ev:Int))
 lo:call 17 [aJ m o]=zF (.int o.lo)
 hi:call 18 [aJ m o]=zF (.int o.hi)
 vf:∀p q:Bool,call 41 [.bl p,.bl q]=zF (ba (vf p q))
 ca:call 42 [aJ m o,.int t]=zF (af m (qA o.cov t))
 ha:call 43 [aJ m o,.int t]=zF (af m (qA o.hrt t))
 he:∀x k:Nat,call 44 [.int (x:Int),.int (k:Int)]=zF (.bl (decide (((x &&& k:Nat):Int)=(k:Int))))
 ho:∀x k:Nat,call 45 [.int (x:Int),.int (k:Int)]=zF (.bl (!decide (((x &&& k:Nat):Int)=0)))
 cr:∀(c:Fr) (f:Nat->P2) (a b:Int),jO c->call 46 [bp m c,af m f,.int a,.int b]=zF (.bl (dc (Cm m c f a b)))
noncomputable def Ed:At->Nat
 | .any=>81|.meets _=>83|.inside _=>85|.holds _=>87|.near _ _=>89|.marked _=>91|.touched _=>93|.crosses _ _ _=>95|.worthy _=>97
noncomputable def Ec:At->Nat
 | .any=>80|.meets _=>82|.inside _=>84|.holds _=>86|.near _ _=>88|.marked _=>90|.touched _=>92|.crosses _ _ _=>94|.worthy _=>96
def Ee:At->Fd
 | .any=>DI|.meets _=>DL|.inside _=>DD|.holds _=>DK|.near _ _=>f_Near_verdict|.marked _=>DE|.touched _=>DH|.crosses _ _ _=>f_Crosses_verdict|.worthy _=>DF
def atC:At->Fd
 | .any=>DC|.meets _=>Dy|.inside _=>DN|.holds _=>Dx|.near _ _=>Dz|.marked _=>DO|.touched _=>DM|.crosses _ _ _=>DJ|.worthy _=>DP
def bU (m:Nat) (a:At):D:=.obj (pL m a).1 (pL m a).2
theorem qHv (m:Nat) (a:At) (hok:iE a) (o:To) (ok:ToOk o) (t:Int) (ht:0<=t/\t<=10^15) (O:On call m o t) :
  ae call (zF (bU m a)::zF (aJ m o)::zF (.int t)::List.replicate ((Ee a).ns - 3) none) (Ee a).body=some (.rt (false,ba (pJ m a o t))):=by
 have hm:=mono m a o ok t ht.1 hok
 unfold pJ
 rw [<-qSI hm]
 clear hm
 have tc:=O.tc
 have th:=O.th
 have so:=O.so
 have ev:=O.ev
 have lo:=O.lo
 have hi:=O.hi
 have ca:=O.ca
 have hx:=O.ha
 have v:=O.vf
 cases a with
 | any=>rfl
 | meets f =>
  have fb:cU 0 (Qa "box") (bU m (.meets f))=zF (af m f):=rfl
  have q1:=O.bm (qA o.cov t) f
  have q2:=O.bm (qA o.hrt t) f
  exact ao (r:=(false,ba (vf (fA m (qA o.hrt t) f) (!fA m (qA o.cov t) f)))) (by simp [hx,fb,q2,ca,q1,v]) rfl
 | inside f =>
  have fb:cU 0 (Qa "box") (bU m (.inside f))=zF (af m f):=rfl
  have q1:=O.bi (qA o.cov t) f
  have q2:=O.bi (qA o.hrt t) f
  exact ao (r:=(false,ba (vf (eT m (qA o.cov t) f) (!eT m (qA o.hrt t) f)))) (by simp [ca,fb,q1,hx,q2,v]) rfl
 | holds f =>
  have fb:cU 0 (Qa "box") (bU m (.holds f))=zF (af m f):=rfl
  have q1:=O.bi f (qA o.cov t)
  have q2:=O.bi f (qA o.hrt t)
  exact ao (r:=(false,ba (vf (eT m f (qA o.hrt t)) (!eT m f (qA o.cov t))))) (by simp [fb,hx,q2,ca,q1,v]) rfl
 | near f r =>
  have fb:cU 0 (Qa "box") (bU m (.near f r))=zF (af m f):=rfl
  have fc:cU 1 (Qa "far") (bU m (.near f r))=zF (.int r):=rfl
  have q1:=O.bg (qA o.cov t) f (λj=>jY ok.cov ht j) λj=>(hok j).b
  have q2:=O.bg (qA o.hrt t) f (λj=>jY ok.hrt ht j) λj=>(hok j).b
  have e:decide (r<bN m (qA o.cov t) f)=!decide (bN m (qA o.cov t) f<=r):=by
   by_cases h:bN m (qA o.cov t) f<=r
   ·rw [Qk h,Qj (by omega)];rfl
   ·rw [Qj h,Qk (by omega)];rfl
  show ae call [zF (bU m (.near f r)),zF (aJ m o),zF (.int t),none,none] f_Near_verdict.body=_
  refine ay (false,.int (bN m (qA o.hrt t) f)) (by simp [hx,fb,q2]) ?_
  refine ay (false,.int (bN m (qA o.cov t) f)) (by simp [ca,fb,q1]) ?_
  exact ao (r:=(false,ba (vf (decide (bN m (qA o.hrt t) f<=r)) (!decide (bN m (qA o.cov t) f<=r))))) (by simp [fc,e,v]) rfl
 | marked k =>
  have fb:cU 0 (Qa "marks") (bU m (.marked k))=zF (.int (k:Int)):=rfl
  have q1:=O.he o.so k
  have q2:=O.he o.ev k
  exact ao (r:=(false,ba (vf (decide (((o.ev &&& k:Nat):Int)=(k:Int))) (!decide (((o.so &&& k:Nat):Int)=(k:Int)))))) (by simp [ev,fb,q2,so,q1,v]) rfl
 | touched k =>
  have fb:cU 0 (Qa "marks") (bU m (.touched k))=zF (.int (k:Int)):=rfl
  have q1:=O.ho o.so k
  have q2:=O.ho o.ev k
  exact ao (r:=(false,ba (vf (!decide (((o.ev &&& k:Nat):Int)=0)) (!(!decide (((o.so &&& k:Nat):Int)=0)))))) (by simp [ev,fb,q2,so,q1,v]) rfl
 | crosses f a b =>
  have fb:cU 0 (Qa "box") (bU m (.crosses f a b))=zF (af m f):=rfl
  have fc:cU 1 (Qa "first") (bU m (.crosses f a b))=zF (.int a):=rfl
  have fd:cU 2 (Qa "last") (bU m (.crosses f a b))=zF (.int b):=rfl
  have q1:=O.cr o.cov f a b ok.cov
  have q2:=O.cr o.hrt f a b ok.hrt
  show ae call [zF (bU m (.crosses f a b)),zF (aJ m o),zF (.int t),none,none] f_Crosses_verdict.body=_
  refine ay (false,.bl (dc (Cm m o.hrt f a b))) (by simp [th,fb,fc,fd,q2]) ?_
  refine ay (false,.bl (dc (Cm m o.cov f a b))) (by simp [tc,fb,fc,fd,q1]) ?_
  exact ao (r:=(false,ba (vf (dc (Cm m o.hrt f a b)) (!dc (Cm m o.cov f a b))))) (by simp [v]) rfl
 | worthy w =>
  have fb:cU 0 (Qa "least") (bU m (.worthy w))=zF (.int w):=rfl
  have e:decide (o.hi<w)=!decide (w<=o.hi):=by
   by_cases h:w<=o.hi
   ·rw [Qk h,Qj (by omega)];rfl
   ·rw [Qj h,Qk (by omega)];rfl
  exact ao (r:=(false,ba (vf (decide (w<=o.lo)) (!decide (w<=o.hi))))) (by simp [lo,fb,hi,e,v]) rfl
theorem zk (m:Nat) (u:Th):D.tup (bx m λj=>sD (u.sw j))=bp m (aP u):=rfl
def gs (m:Nat) (a:At) (u:Th) (t:Int):Bool:=iy m a (aP u) u.mr u.wo t
structure Ow (call:Nat->List D->Option R) (m:Nat) (u:Th) (t:Int):Prop where
 bm:∀g f:Nat->P2,call 33 [af m g,af m f]=zF (.bl (fA m g f))
 bi:∀g f:Nat->P2,call 34 [af m g,af m f]=zF (.bl (eT m g f))
 bg:∀g f:Nat->P2,(∀j,cH (g j))->(∀j,cH (f j))->call 35 [af m g,af m f]=zF (.int (bN m g f))
 sw:call 9 [av m u]=zF (bp m (aP u))
 mr:call 10 [av m u]=zF (.int (u.mr:Int))
 wo:call 11 [av m u]=zF (.int u.wo)
 tb:call 12 [av m u,.int t]=zF (af m (qA (aP u) t))
 he:∀x k:Nat,call 44 [.int (x:Int),.int (k:Int)]=zF (.bl (decide (((x &&& k:Nat):Int)=(k:Int))))
 ho:∀x k:Nat,call 45 [.int (x:Int),.int (k:Int)]=zF (.bl (!decide (((x &&& k:Nat):Int)=0)))
 cr:∀(c:Fr) (f:Nat->P2) (a b:Int),jO c->call 46 [bp m c,af m f,.int a,.int b]=zF (.bl (dc (Cm m c f a b)))
theorem iO {u:Th}(h:cg u):jO (aP u):=λj=>⟨(h.1 j).1,(h.1 j).2.1,(h.1 j).2.2,(h.1 j).2.2⟩
theorem qM1 (m:Nat) (a:At) (ha:iE a) (u:Th) (hu:cg u) (t:Int) (ht:0<=t/\t<=10^15) (O:Ow call m u t) :
  ae call [zF (bU m a),zF (av m u),zF (.int t)] (atC a).body=some (.rt (false,.bl (gs m a u t))):=by
 have tb:=O.tb
 have sw:=O.sw
 have mr:=O.mr
 have wo:=O.wo
 cases a with
 | any=>exact ao rfl rfl
 | meets f =>
  have fb:cU 0 (Qa "box") (bU m (.meets f))=zF (af m f):=rfl
  have q:=O.bm (qA (aP u) t) f
  exact ao (r:=(false,.bl (fA m (qA (aP u) t) f))) (by simp [tb,fb,q]) rfl
 | inside f =>
  have fb:cU 0 (Qa "box") (bU m (.inside f))=zF (af m f):=rfl
  have q:=O.bi (qA (aP u) t) f
  exact ao (r:=(false,.bl (eT m (qA (aP u) t) f))) (by simp [tb,fb,q]) rfl
 | holds f =>
  have fb:cU 0 (Qa "box") (bU m (.holds f))=zF (af m f):=rfl
  have q:=O.bi f (qA (aP u) t)
  exact ao (r:=(false,.bl (eT m f (qA (aP u) t)))) (by simp [fb,tb,q]) rfl
 | near f r =>
  have fb:cU 0 (Qa "box") (bU m (.near f r))=zF (af m f):=rfl
  have fc:cU 1 (Qa "far") (bU m (.near f r))=zF (.int r):=rfl
  have q:=O.bg (qA (aP u) t) f (λj=>jY (iO hu) ht j) λj=>(ha j).b
  exact ao (r:=(false,.bl (decide (bN m (qA (aP u) t) f<=r)))) (by simp [tb,fb,q,fc]) rfl
 | marked k =>
  have fb:cU 0 (Qa "marks") (bU m (.marked k))=zF (.int (k:Int)):=rfl
  have q:=O.he u.mr k
  exact ao (r:=(false,.bl (decide (((u.mr &&& k:Nat):Int)=(k:Int))))) (by simp [mr,fb,q]) rfl
 | touched k =>
  have fb:cU 0 (Qa "marks") (bU m (.touched k))=zF (.int (k:Int)):=rfl
  have q:=O.ho u.mr k
  exact ao (r:=(false,.bl (!decide (((u.mr &&& k:Nat):Int)=0)))) (by simp [mr,fb,q]) rfl
 | crosses f a b =>
  have fb:cU 0 (Qa "box") (bU m (.crosses f a b))=zF (af m f):=rfl
  have fc:cU 1 (Qa "first") (bU m (.crosses f a b))=zF (.int a):=rfl
  have fd:cU 2 (Qa "last") (bU m (.crosses f a b))=zF (.int b):=rfl
  have q:=O.cr (aP u) f a b (iO hu)
  exact ao (r:=(false,.bl (dc (Cm m (aP u) f a b)))) (by simp [sw,fb,fc,fd,q]) rfl
 | worthy w =>
  have fb:cU 0 (Qa "least") (bU m (.worthy w))=zF (.int w):=rfl
  exact ao (r:=(false,.bl (decide (w<=u.wo)))) (by simp [wo,fb]) rfl
end
structure Tl (u:Th) (o:To):Prop where
 c:∀j,dJ (o.cov j) (aP u j)
 h:∀j,dJ (aP u j) (o.hrt j)
 so:u.mr &&& o.so=u.mr
 ev:o.ev &&& u.mr=o.ev
 lo:o.lo<=u.wo
 hi:u.wo<=o.hi
theorem qS0 (m:Nat) (a:At) (ha:iE a) (u:Th) (hu:cg u) (o:To) (ok:ToOk o) (l:Tl u o) (t:Int) (ht:0<=t):(iy m a (kH a o) o.ev o.lo t=true->gs m a u t=true)/\(gs m a u t=true->iy m a (out a o) o.so o.hi t=true):=by
 have k1:ToOk ⟨o.cov,aP u,o.so,u.mr,0,u.wo,o.hi,0⟩:=⟨ok.cov,iO hu,l.c,l.so,l.hi⟩
 have k2:ToOk ⟨aP u,o.hrt,u.mr,o.ev,0,o.lo,u.wo,0⟩:=⟨iO hu,ok.hrt,l.h,l.ev,l.lo⟩
 have q1:=mono m a _ k1 t ht ha
 have q2:=mono m a _ k2 t ht ha
 cases a<;>exact⟨‹_›,‹_›⟩
end Dw.T
namespace Dw.T
open Dw
inductive Wt where
 | atm (a:At)|both (x y:Wt)|eith (x y:Wt)|unl (x:Wt)
def aE (m:Nat):Wt->D
 | .atm a=>bU m a
 | .both x y=>.obj ⟨747,[Qa "one",Qa "two"]⟩ [aE m x,aE m y]
 | .eith x y=>.obj ⟨787,[Qa "one",Qa "two"]⟩ [aE m x,aE m y]
 | .unl x=>.obj ⟨827,[Qa "one"]⟩ [aE m x]
def cT:Wt->Prop
 | .atm a=>iE a
 | .both x y=>cT x/\cT y
 | .eith x y=>cT x/\cT y
 | .unl x=>cT x
noncomputable def dp:Wt->Nat
 | .atm _=>0
 | .both x y=>max (dp x) (dp y)+1
 | .eith x y=>max (dp x) (dp y)+1
 | .unl x=>dp x+1
def oJ:Wd->Wd->Wd
 | .no,_=>.no
 | _,.no=>.no
 | .ev,.ev=>.ev
 | _,_=>.op
def jN:Wd->Wd
 | .ev=>.no
 | .no=>.ev
 | .op=>.op
def rP (a b:Wd):Wd:=jN (oJ (jN a) (jN b))
def bV (m:Nat) (o:To) (t:Int):Wt->Wd
 | .atm a=>pJ m a o t
 | .both x y=>oJ (bV m o t x) (bV m o t y)
 | .eith x y=>rP (bV m o t x) (bV m o t y)
 | .unl x=>jN (bV m o t x)
def gq:Wt->Nat
 | .atm a=>Ed a
 | .both _ _=>99
 | .eith _ _=>101
 | .unl _=>103
def gS:Wt->Nat
 | .atm a=>Ec a
 | .both _ _=>98
 | .eith _ _=>100
 | .unl _=>102
theorem uG (m:Nat) (w:Wt):∃kn os,aE m w=.obj kn os/\kn.ns.all (λf=>f != Qa "verdict")=true/\TBv.lookup kn.c=some (gq w)/\kn.ns.all (λf=>f != Qa "suits")=true/\TBs.lookup kn.c=some (gS w):=by
 cases w with
 | atm a=>exact⟨(pL m a).1,(pL m a).2,rfl,by cases a<;>rfl,by cases a<;>rfl,by cases a<;>rfl,by cases a<;>rfl⟩
 | both x y=>exact⟨_,_,rfl,rfl,rfl,rfl,rfl⟩
 | eith x y=>exact⟨_,_,rfl,rfl,rfl,rfl,rfl⟩
 | unl x=>exact⟨_,_,rfl,rfl,rfl,rfl,rfl⟩
def bW (m:Nat) (u:Th) (t:Int):Wt->Bool
 | .atm a=>gs m a u t
 | .both x y=>bW m u t x&&bW m u t y
 | .eith x y=>bW m u t x||bW m u t y
 | .unl x=>!bW m u t x
theorem qUb {p q:Wd}{r s:Bool}(a1:p=.ev->r=true) (a2:p=.no->r=false) (b1:q=.ev->s=true) (b2:q=.no->s=false):(oJ p q=.ev->(r&&s)=true)/\(oJ p q=.no->(r&&s)=false):=by
 revert a1 a2 b1 b2
 cases p<;>cases q<;>cases r<;>cases s<;>decide
theorem qSK {p:Wd}{r:Bool}(a1:p=.ev->r=true) (a2:p=.no->r=false):(jN p=.ev->(!r)=true)/\(jN p=.no->(!r)=false):=by
 revert a1 a2
 cases p<;>cases r<;>decide
theorem qTk {p q:Wd}{r s:Bool}(a1:p=.ev->r=true) (a2:p=.no->r=false) (b1:q=.ev->s=true) (b2:q=.no->s=false):(rP p q=.ev->(r||s)=true)/\(rP p q=.no->(r||s)=false):=by
 revert a1 a2 b1 b2
 cases p<;>cases q<;>cases r<;>cases s<;>decide
theorem lx (m:Nat) (u:Th) (hu:cg u) (o:To) (ok:ToOk o) (l:Tl u o) (t:Int) (ht:0<=t):∀w,cT w->(bV m o t w=.ev->bW m u t w=true)/\(bV m o t w=.no->bW m u t w=false)
 | .atm a,h=>by
  obtain⟨k1,k2⟩:=qS0 m a h u hu o ok l t ht
  show (pK _ _=.ev->gs m a u t=true)/\(pK _ _=.no->gs m a u t=false)
  generalize iy m a (kH a o) o.ev o.lo t=p at *
  generalize iy m a (out a o) o.so o.hi t=q at *
  generalize gs m a u t=r at *
  revert k1 k2
  cases p<;>cases q<;>cases r<;>decide
 | .both x y,h=>by
  obtain⟨a1,a2⟩:=lx m u hu o ok l t ht x h.1
  obtain⟨b1,b2⟩:=lx m u hu o ok l t ht y h.2
  exact qUb a1 a2 b1 b2
 | .eith x y,h=>by
  obtain⟨a1,a2⟩:=lx m u hu o ok l t ht x h.1
  obtain⟨b1,b2⟩:=lx m u hu o ok l t ht y h.2
  exact qTk a1 a2 b1 b2
 | .unl x,h=>by
  obtain⟨a1,a2⟩:=lx m u hu o ok l t ht x h
  exact qSK a1 a2
section
variable {call:Nat->List D->Option R}
theorem lH {Z:En}{a:C}{bs:List C}{b:Bool}{m:Nat}{w:Wt}{ys:List D}{r:R}(h:aa call Z a=some (b,aE m w)) (hb:bO call Z bs=some ys) (hc:call (gq w) (aE m w::ys)=some r):aa call Z (.mc a (Qa "verdict") TBv bs)=some r:=by
 obtain⟨kn,os,e,h1,h2,_⟩:=uG m w
 rw [e] at h hc
 exact yC call Z h h1 h2 hb hc
theorem lG {Z:En}{a:C}{bs:List C}{b:Bool}{m:Nat}{w:Wt}{ys:List D}{r:R}(h:aa call Z a=some (b,aE m w)) (hb:bO call Z bs=some ys) (hc:call (gS w) (aE m w::ys)=some r):aa call Z (.mc a (Qa "suits") TBs bs)=some r:=by
 obtain⟨kn,os,e,_,_,h1,h2⟩:=uG m w
 rw [e] at h hc
 exact yC call Z h h1 h2 hb hc
theorem jq {Z:En}{a b:C}{x:Bool}{p q:Bool}(ha:aa call Z a=some (x,.bl p)) (hb:aa call Z b=zF (.bl q)):aa call Z (.or a b)=zF (.bl (p||q)):=by
 rw [qSJ,ha]
 cases p
 ·exact hb
 ·rfl
theorem qNf (m:Nat) (x y:Wt) (u:Th) (t:Int) (hx:call (gS x) [aE m x,av m u,.int t]=zF (.bl (bW m u t x))) (hy:call (gS y) [aE m y,av m u,.int t]=zF (.bl (bW m u t y))) :
  ae call [zF (aE m (.both x y)),zF (av m u),zF (.int t)] f_Both_suits.body=some (.rt (false,.bl (bW m u t (.both x y)))):=
 ao (r:=(false,.bl (bW m u t x&&bW m u t y))) (iM (x:=false) (y:=false) (lG (b:=false) (m:=m) (w:=x) (ys:=[av m u,.int t]) rfl rfl hx) (lG (b:=false) (m:=m) (w:=y) (ys:=[av m u,.int t]) rfl rfl hy)) rfl
theorem qNc (m:Nat) (x y:Wt) (u:Th) (t:Int) (hx:call (gS x) [aE m x,av m u,.int t]=zF (.bl (bW m u t x))) (hy:call (gS y) [aE m y,av m u,.int t]=zF (.bl (bW m u t y))) :
  ae call [zF (aE m (.eith x y)),zF (av m u),zF (.int t)] f_Either_suits.body=some (.rt (false,.bl (bW m u t (.eith x y)))):=
 ao (r:=(false,.bl (bW m u t x||bW m u t y))) (jq (x:=false) (lG (b:=false) (m:=m) (w:=x) (ys:=[av m u,.int t]) rfl rfl hx) (lG (b:=false) (m:=m) (w:=y) (ys:=[av m u,.int t]) rfl rfl hy)) rfl
theorem qPE (m:Nat) (x:Wt) (u:Th) (t:Int) (hx:call (gS x) [aE m x,av m u,.int t]=zF (.bl (bW m u t x))) :
  ae call [zF (aE m (.unl x)),zF (av m u),zF (.int t)] f_Unless_suits.body=some (.rt (false,.bl (bW m u t (.unl x)))):=by
 have h:=lG (call:=call) (Z:=[zF (aE m (.unl x)),zF (av m u),zF (.int t)]) (a:=.fld V0 0 (Qa "one")) (bs:=[V1,V2]) (b:=false) (m:=m) (w:=x) (ys:=[av m u,.int t]) rfl rfl hx
 exact ao (r:=(false,.bl (!bW m u t x))) (by show aa call _ (.not _)=_;rw [AL,h]) rfl
theorem qNe (m:Nat) (x y:Wt) (o:To) (t:Int) (hx:call (gq x) [aE m x,aJ m o,.int t]=zF (ba (bV m o t x))) (hy:call (gq y) [aE m y,aJ m o,.int t]=zF (ba (bV m o t y))) (v:∀p q:Bool,call 41 [.bl p,.bl q]=zF (ba (vf p q))) :
  ae call [zF (aE m (.both x y)),zF (aJ m o),zF (.int t),none] f_Both_verdict.body=some (.rt (false,ba (bV m o t (.both x y)))):=by
 have h1:=lH (call:=call) (Z:=[zF (aE m (.both x y)),zF (aJ m o),zF (.int t),none]) (a:=.fld V0 0 (Qa "one")) (bs:=[V1,V2]) (b:=false) (m:=m) (w:=x) (ys:=[aJ m o,.int t]) rfl rfl hx
 have h2:=lH (call:=call) (Z:=[zF (aE m (.both x y)),zF (aJ m o),zF (.int t),none]) (a:=.fld V0 1 (Qa "two")) (bs:=[V1,V2]) (b:=false) (m:=m) (w:=y) (ys:=[aJ m o,.int t]) rfl rfl hy
 have l2:2<=lim:=bf (by decide)
 show _=some (Ou.rt (false,ba (oJ (bV m o t x) (bV m o t y))))
 generalize bV m o t x=a at *
 generalize bV m o t y=b at *
 refine ay (false,.tup [ba a,ba b]) (by rw [eQ,dB,h1];simp only;rw [dB,h2];simp only [eh];exact Ql l2) ?_
 cases a<;>cases b<;>first
  | exact ao (r:=(false,ba (vf true false))) (v true false) rfl
  | exact ao (r:=(false,ba (vf false true))) (v false true) rfl
  | exact ao (r:=(false,ba (vf false false))) (v false false) rfl
theorem qNb (m:Nat) (x y:Wt) (o:To) (t:Int) (hx:call (gq x) [aE m x,aJ m o,.int t]=zF (ba (bV m o t x))) (hy:call (gq y) [aE m y,aJ m o,.int t]=zF (ba (bV m o t y))) (v:∀p q:Bool,call 41 [.bl p,.bl q]=zF (ba (vf p q))) :
  ae call [zF (aE m (.eith x y)),zF (aJ m o),zF (.int t),none] f_Either_verdict.body=some (.rt (false,ba (bV m o t (.eith x y)))):=by
 have h1:=lH (call:=call) (Z:=[zF (aE m (.eith x y)),zF (aJ m o),zF (.int t),none]) (a:=.fld V0 0 (Qa "one")) (bs:=[V1,V2]) (b:=false) (m:=m) (w:=x) (ys:=[aJ m o,.int t]) rfl rfl hx
 have h2:=lH (call:=call) (Z:=[zF (aE m (.eith x y)),zF (aJ m o),zF (.int t),none]) (a:=.fld V0 1 (Qa "two")) (bs:=[V1,V2]) (b:=false) (m:=m) (w:=y) (ys:=[aJ m o,.int t]) rfl rfl hy
 have l2:2<=lim:=bf (by decide)
 show _=some (Ou.rt (false,ba (rP (bV m o t x) (bV m o t y))))
 generalize bV m o t x=a at *
 generalize bV m o t y=b at *
 refine ay (false,.tup [ba a,ba b]) (by rw [eQ,dB,h1];simp only;rw [dB,h2];simp only [eh];exact Ql l2) ?_
 cases a<;>cases b<;>first
  | exact ao (r:=(false,ba (vf true false))) (v true false) rfl
  | exact ao (r:=(false,ba (vf false true))) (v false true) rfl
  | exact ao (r:=(false,ba (vf false false))) (v false false) rfl
theorem qPD (m:Nat) (x:Wt) (o:To) (t:Int) (hx:call (gq x) [aE m x,aJ m o,.int t]=zF (ba (bV m o t x))) (v:∀p q:Bool,call 41 [.bl p,.bl q]=zF (ba (vf p q))) :
  ae call [zF (aE m (.unl x)),zF (aJ m o),zF (.int t),none] f_Unless_verdict.body=some (.rt (false,ba (bV m o t (.unl x)))):=by
 have h1:=lH (call:=call) (Z:=[zF (aE m (.unl x)),zF (aJ m o),zF (.int t),none]) (a:=.fld V0 0 (Qa "one")) (bs:=[V1,V2]) (b:=false) (m:=m) (w:=x) (ys:=[aJ m o,.int t]) rfl rfl hx
 show _=some (Ou.rt (false,ba (jN (bV m o t x))))
 generalize bV m o t x=a at *
 refine ay (false,ba a) h1 ?_
 cases a<;>first
  | exact ao (r:=(false,ba (vf true false))) (v true false) rfl
  | exact ao (r:=(false,ba (vf false true))) (v false true) rfl
  | exact ao (r:=(false,ba (vf false false))) (v false false) rfl
end
end Dw.T
namespace Dw.T
open Dw
theorem qVs:tab.length<=HX:=by decide
theorem Bf (n m:Nat) (hm:0<m) (c:Fr) (hc:jO c) (f:Nat->P2) (a b:Int):aG tab (n+4) 46 [bp m c,af m f,.int a,.int b]=zF (.bl (dc (Cm m c f a b))):=by
 have bl:∀(a b:Q4) (s:fB),(b.2.2.2 - a.2.2.1).natAbs<2^100->aG tab (n+2) 39 [q4 a,q4 b,dh s]=zF (dh (bb a b s)):=λa b s h=>by
  cases s with
  | none=>exact au rfl rfl rfl (B4 a b none h λn' r a b hr=>au rfl rfl rfl (B3 n' r a b hr))
  | some p=>exact au rfl rfl rfl (B4 a b (some p) h λn' r a b hr=>au rfl rfl rfl (B3 n' r a b hr))
 refine au rfl rfl rfl (qNd m hm c f a b (au rfl rfl rfl (qM2 m f)) ?_)
 refine au rfl rfl rfl (qHB m c (λj=>eG (f j)) a b (λj hj=>?_) bl)
 have h:=hc j
 unfold iY at h
 simp only [eG]
 omega
theorem qUU {call:Nat->List D->Option R}(m:Nat) (o:To) (t:Int) (a:call 13 [aJ m o]=zF (bp m o.cov)) (b:call 5 [bp m o.cov,.int t]=zF (af m (qA o.cov t))):ae call [zF (aJ m o),zF (.int t)] f_cover_at.body=some (.rt (false,af m (qA o.cov t))):=
 ao (by simp [a,b]) rfl
theorem qUR {call:Nat->List D->Option R}(m:Nat) (o:To) (t:Int) (a:call 14 [aJ m o]=zF (bp m o.hrt)) (b:call 5 [bp m o.hrt,.int t]=zF (af m (qA o.hrt t))):ae call [zF (aJ m o),zF (.int t)] f_heart_at.body=some (.rt (false,af m (qA o.hrt t))):=
 ao (by simp [a,b]) rfl
theorem qUO {call:Nat->List D->Option R}(m:Nat) (u:Th) (t:Int) (b:call 5 [bp m (aP u),.int t]=zF (af m (qA (aP u) t))) (a:call 9 [av m u]=zF (bp m (aP u))):ae call [zF (av m u),zF (.int t)] f_thing_box.body=some (.rt (false,af m (qA (aP u) t))):=
 ao (by simp [a,b]) rfl
theorem yJ (n m:Nat) (hm:0<m) (o:To) (t:Int) (ht:0<=t/\t<=10^15):On (aG tab (n+4)) m o t:=
 have iU:∀k,aG tab (k+1) 13 [aJ m o]=zF (bp m o.cov):=λk=>au rfl rfl rfl (ao rfl rfl)
 have my:∀k,aG tab (k+1) 14 [aJ m o]=zF (bp m o.hrt):=λk=>au rfl rfl rfl (ao rfl rfl)
 have fa:∀(k:Nat) (c:Fr),aG tab (k+2) 5 [bp m c,.int t]=zF (af m (qA c t)):=λk c=>au rfl rfl rfl (yQ m c t λq=>au rfl rfl rfl (yT q t (by omega)))
 ⟨λg f=>au rfl rfl rfl (yP m g f λp q=>au rfl rfl rfl (yV p q)),λg f=>au rfl rfl rfl (yO m g f λp q=>au rfl rfl rfl (yU p q)),
  λg f h1 h2=>au rfl rfl rfl (t6 m g f h1 h2 λp q=>au rfl rfl rfl (t7 p q)),iU _,my _,
  au rfl rfl rfl (ao rfl rfl),au rfl rfl rfl (ao rfl rfl),au rfl rfl rfl (ao rfl rfl),au rfl rfl rfl (ao rfl rfl),
  λp q=>au rfl rfl rfl (qk p q),
  au rfl rfl rfl (qUU m o t (iU _) (fa _ _)),
  au rfl rfl rfl (qUR m o t (my _) (fa _ _)),
  λx k=>au rfl rfl rfl (yR x k),λx k=>au rfl rfl rfl (yS x k),λc f a b hc=>Bf n m hm c hc f a b⟩
theorem lV (m:Nat) (hm:0<m) (o:To) (ok:ToOk o) (t:Int) (ht:0<=t/\t<=10^15):∀(w:Wt),cT w->∀n,aG tab (n+dp w+5) (gq w) [aE m w,aJ m o,.int t]=zF (ba (bV m o t w))
 | .atm a,h,n=>by
  have q:=qHv m a h o ok t ht (yJ n m hm o t ht)
  show aG tab (n+0+5) (Ed a) [bU m a,aJ m o,.int t]=zF (ba (pJ m a o t))
  cases a with
  | any=>exact au rfl rfl rfl q
  | meets f=>exact au rfl rfl rfl q
  | inside f=>exact au rfl rfl rfl q
  | holds f=>exact au rfl rfl rfl q
  | near f r=>exact au rfl rfl rfl q
  | marked k=>exact au rfl rfl rfl q
  | touched k=>exact au rfl rfl rfl q
  | crosses f a b=>exact au rfl rfl rfl q
  | worthy w=>exact au rfl rfl rfl q
 | .both x y,h,n=>by
  have qx:=lV m hm o ok t ht x h.1 (n+(max (dp x) (dp y) - dp x))
  have qy:=lV m hm o ok t ht y h.2 (n+(max (dp x) (dp y) - dp y))
  rw [show n+(max (dp x) (dp y) - dp x)+dp x+5=n+max (dp x) (dp y)+5 by omega] at qx
  rw [show n+(max (dp x) (dp y) - dp y)+dp y+5=n+max (dp x) (dp y)+5 by omega] at qy
  exact au (n:=n+max (dp x) (dp y)+5) rfl rfl rfl (qNe m x y o t qx qy λp q=>au (n:=n+max (dp x) (dp y)+4) rfl rfl rfl (qk p q))
 | .eith x y,h,n=>by
  have qx:=lV m hm o ok t ht x h.1 (n+(max (dp x) (dp y) - dp x))
  have qy:=lV m hm o ok t ht y h.2 (n+(max (dp x) (dp y) - dp y))
  rw [show n+(max (dp x) (dp y) - dp x)+dp x+5=n+max (dp x) (dp y)+5 by omega] at qx
  rw [show n+(max (dp x) (dp y) - dp y)+dp y+5=n+max (dp x) (dp y)+5 by omega] at qy
  exact au (n:=n+max (dp x) (dp y)+5) rfl rfl rfl (qNb m x y o t qx qy λp q=>au (n:=n+max (dp x) (dp y)+4) rfl rfl rfl (qk p q))
 | .unl x,h,n=>by
  have qx:=lV m hm o ok t ht x h n
  exact au (n:=n+dp x+5) rfl rfl rfl (qPD m x o t qx λp q=>au (n:=n+dp x+4) rfl rfl rfl (qk p q))
theorem yL (n m:Nat) (hm:0<m) (u:Th) (t:Int) (ht:0<=t/\t<=10^15):Ow (aG tab (n+4)) m u t:=
 have iU:∀k,aG tab (k+1) 9 [av m u]=zF (bp m (aP u)):=λk=>au rfl rfl rfl (ao rfl rfl)
 have fa:∀(k:Nat) (c:Fr),aG tab (k+2) 5 [bp m c,.int t]=zF (af m (qA c t)):=λk c=>au rfl rfl rfl (yQ m c t λq=>au rfl rfl rfl (yT q t (by omega)))
 ⟨λg f=>au rfl rfl rfl (yP m g f λp q=>au rfl rfl rfl (yV p q)),λg f=>au rfl rfl rfl (yO m g f λp q=>au rfl rfl rfl (yU p q)),
  λg f h1 h2=>au rfl rfl rfl (t6 m g f h1 h2 λp q=>au rfl rfl rfl (t7 p q)),iU _,au rfl rfl rfl (ao rfl rfl),au rfl rfl rfl (ao rfl rfl),
  au rfl rfl rfl (qUO m u t (fa _ _) (iU _)),
  λx k=>au rfl rfl rfl (yR x k),λx k=>au rfl rfl rfl (yS x k),λc f a b hc=>Bf n m hm c hc f a b⟩
theorem lQ (m:Nat) (hm:0<m) (u:Th) (hu:cg u) (t:Int) (ht:0<=t/\t<=10^15):∀(w:Wt),cT w->∀n,aG tab (n+dp w+5) (gS w) [aE m w,av m u,.int t]=zF (.bl (bW m u t w))
 | .atm a,h,n=>by
  have q:=qM1 m a h u hu t ht (yL n m hm u t ht)
  show aG tab (n+0+5) (Ec a) [bU m a,av m u,.int t]=zF (.bl (gs m a u t))
  cases a with
  | any=>exact au rfl rfl rfl q
  | meets f=>exact au rfl rfl rfl q
  | inside f=>exact au rfl rfl rfl q
  | holds f=>exact au rfl rfl rfl q
  | near f r=>exact au rfl rfl rfl q
  | marked k=>exact au rfl rfl rfl q
  | touched k=>exact au rfl rfl rfl q
  | crosses f a b=>exact au rfl rfl rfl q
  | worthy w=>exact au rfl rfl rfl q
 | .both x y,h,n=>by
  have qx:=lQ m hm u hu t ht x h.1 (n+(max (dp x) (dp y) - dp x))
  have qy:=lQ m hm u hu t ht y h.2 (n+(max (dp x) (dp y) - dp y))
  rw [show n+(max (dp x) (dp y) - dp x)+dp x+5=n+max (dp x) (dp y)+5 by omega] at qx
  rw [show n+(max (dp x) (dp y) - dp y)+dp y+5=n+max (dp x) (dp y)+5 by omega] at qy
  exact au (n:=n+max (dp x) (dp y)+5) rfl rfl rfl (qNf m x y u t qx qy)
 | .eith x y,h,n=>by
  have qx:=lQ m hm u hu t ht x h.1 (n+(max (dp x) (dp y) - dp x))
  have qy:=lQ m hm u hu t ht y h.2 (n+(max (dp x) (dp y) - dp y))
  rw [show n+(max (dp x) (dp y) - dp x)+dp x+5=n+max (dp x) (dp y)+5 by omega] at qx
  rw [show n+(max (dp x) (dp y) - dp y)+dp y+5=n+max (dp x) (dp y)+5 by omega] at qy
  exact au (n:=n+max (dp x) (dp y)+5) rfl rfl rfl (qNc m x y u t qx qy)
 | .unl x,h,n=>au (n:=n+dp x+5) rfl rfl rfl (qPE m x u t (lQ m hm u hu t ht x h n))
end Dw.T
namespace Dw.T
open Dw
def jP (c k:Int):Int:=((c * 2+1) * (k * k * 9176023+84127918273645463728191)).fmod ox
def aT (c k n:Int):Int:=(((jP c k * (jP c k+5)).fmod ox).fdiv 7).fmod n
theorem bL (c k n:Int) (h:0<n):0<=aT c k n/\aT c k n<n:=uf _ _ h
def Dr (call:Nat->List D->Option R):Prop:=∀c k n:Int,ck c->(0<=k/\k<=10000)->(0<n/\n<2^200)->call 55 [.int c,.int k,.int n]=zF (.int (aT c k n))
abbrev dE:=Int×Int×Int
noncomputable def aO (s:dE):D:=.tup [.int s.1,.int s.2.1,.int s.2.2]
theorem m9 (s:dE):aH (aO s) (.int 0)=zF (.int s.1):=rfl
theorem sl1 (s:dE):aH (aO s) (.int 1)=zF (.int s.2.1):=rfl
theorem gv (s:dE):aH (aO s) (.int 2)=zF (.int s.2.2):=rfl
structure SclOk (s:dE):Prop where
 a:1<=s.1/\s.1<=10^28
 b:0<=s.2.1/\s.2.1<=10^14
 c:1<=s.2.2/\s.2.2<=10^15+1
section
variable {call:Nat->List D->Option R}
theorem qPO (c k n:Int) (hc:ck c) (hk:0<=k/\k<=10000) (hn:0<n/\n<2^200):ae call [zF (.int c),zF (.int k),zF (.int n),none,none] f_law_draw.body=some (.rt (false,.int (aT c k n))):=by
 have m1:=lp c 2 (by decide)
 have m2:=eW k k (by omega)
 have kk:0<=k * k/\k * k<=10000 * 10000:=⟨Int.mul_nonneg hk.1 hk.1,pE hk.2 hk.2 hk.1 (by decide)⟩
 have m3:=eW (k * k) 9176023 (by omega)
 have v1:=BV
 have v2:=uZ
 have m4:=qVk (c * 2+1) (k * k * 9176023+84127918273645463728191) (by unfold ck at hc;omega) (by omega)
 have d1:fK 170141183460469231731687303715884105727=true:=by decide
 have dp:fK ox=true:=d1
 have d7:fK 7=true:=by decide
 have dn:fK n=true:=tS n (by omega) (by omega)
 have b:=uf ((c * 2+1) * (k * k * 9176023+84127918273645463728191)) ox (by decide)
 refine ay (false,.int ox) rfl ?_
 refine ay (false,.int (jP c k)) (by simp [m1,m2,m3,m4,dp];rfl) ?_
 have b':0<=jP c k/\jP c k<170141183460469231731687303715884105727:=b
 have m5:=tO (jP c k) (jP c k+5) (by omega) (by omega)
 exact ao (by simp [m5,dp,d7,dn];rfl) rfl
theorem qU {x:Int}(h:0<=x/\x<2):x=0∨x=1:=by omega
theorem mh {x:Int}(h:0<=x/\x<3):x=0∨x=1∨x=2:=by omega
theorem vR (a b:D) (x:Int) (h:0<=x/\x<2):aH (.lst [a,b]) (.int x)=zF (if x=0 then a else b):=by
 rcases qU h with rfl|rfl<;>rfl
theorem oy (a b c:D) (x:Int) (h:0<=x/\x<3):aH (.lst [a,b,c]) (.int x)=zF (if x=0 then a else if x=1 then b else c):=by
 rcases mh h with rfl|rfl|rfl<;>rfl
theorem qM4 (c:Int) (hc:ck c) (R:Dr call):∃s:dE,SclOk s/\ae call [zF (.int c)] f_law_scale.body=some (.rt (false,aO s)):=by
 have r:=R c 90 3 hc (by omega) (by omega)
 have b:=bL c 90 3 (by decide)
 have p28:fL 10 28=true:=by decide
 have p14:fL 10 14=true:=by decide
 have p15:fL 10 15=true:=by decide
 have l3:3<=lim:=bf (by decide)
 generalize aT c 90 3=j at r b
 have e:=oy (aO (1,3,13)) (aO (1,0,2)) (aO (10^(28:Int).toNat,10^(14:Int).toNat,10^(15:Int).toNat+1)) j b
 refine⟨if j=0 then (1,3,13) else if j=1 then (1,0,2) else (10^28,10^14,10^15+1),?_,?_⟩
 ·rcases mh b with rfl|rfl|rfl
  ·exact⟨by decide,by decide,by decide⟩
  ·exact⟨by decide,by decide,by decide⟩
  ·exact⟨by decide,by decide,by decide⟩
 ·refine ao (by simp only [gy,fI,pk,lO,dB,eQ,cQ,eh,cI,eC,Nat.reduceAdd,l3,↓reduceIte,eO,bS,nY,p28,p14,p15,iQ,fe,ff,ag,ax,bQ,bP,bE,ei,eZ,r,lB];exact e) ?_
  rcases mh b with rfl|rfl|rfl<;>rfl
def gW (c:Int) (k:Nat) (s:dE):Int×Int×Int:=
 (aT c (5 * (k:Int)+1) (40 * s.1+1) - 20 * s.1,aT c (5 * (k:Int)+1) (40 * s.1+1) - 20 * s.1+aT c (5 * (k:Int)+2) (6 * s.1+1) * aT c (5 * (k:Int)+3) 2,aT c (5 * (k:Int)+4) (2 * s.2.1+1) - s.2.1)
theorem qS3 (c:Int) (k:Nat) (s:dE) (ok:SclOk s):xU (gW c k s):=by
 have h1:=ok.a
 have h2:=ok.b
 have b1:=bL c (5 * (k:Int)+1) (40 * s.1+1) (by omega)
 have b2:=bL c (5 * (k:Int)+2) (6 * s.1+1) (by omega)
 have b3:=bL c (5 * (k:Int)+3) 2 (by omega)
 have b4:=bL c (5 * (k:Int)+4) (2 * s.2.1+1) (by omega)
 unfold xU gW
 simp only
 rcases qU b3 with e|e<;>rw [e]<;>omega
theorem qPF (c:Int) (k:Nat) (s:dE) (hc:ck c) (hk:k<=100) (ok:SclOk s) (R:Dr call):ae call [zF (.int c),zF (.int (k:Int)),zF (aO s),none,none,none] f_law_side_by.body=some (.rt (false,sD (gW c k s))):=by
 have h1:=ok.a
 have h2:=ok.b
 have m5:∀x:Int,dH 5 x=true:=λx=>eW 5 x (by decide)
 have m40:∀x:Int,dH 40 x=true:=λx=>eW 40 x (by decide)
 have m20:∀x:Int,dH 20 x=true:=λx=>eW 20 x (by decide)
 have m6:∀x:Int,dH 6 x=true:=λx=>eW 6 x (by decide)
 have m2:∀x:Int,dH 2 x=true:=λx=>eW 2 x (by decide)
 have r1:=R c (5 * (k:Int)+1) (40 * s.1+1) hc (by omega) (by omega)
 have r2:=R c (5 * (k:Int)+2) (6 * s.1+1) hc (by omega) (by omega)
 have r3:=R c (5 * (k:Int)+3) 2 hc (by omega) (by omega)
 have r4:=R c (5 * (k:Int)+4) (2 * s.2.1+1) hc (by omega) (by omega)
 have b3:=bL c (5 * (k:Int)+3) 2 (by omega)
 have l4:4<=lim:=bf (by decide)
 unfold gW
 generalize aT c (5 * (k:Int)+1) (40 * s.1+1)=x1 at *
 generalize aT c (5 * (k:Int)+2) (6 * s.1+1)=x2 at *
 generalize aT c (5 * (k:Int)+3) 2=x3 at *
 generalize aT c (5 * (k:Int)+4) (2 * s.2.1+1)=x4 at *
 have mx:=lp x2 x3 (by omega)
 refine ay (false,.int (x1 - 20 * s.1)) (by simp [m5,m9,m40,r1,m20]) ?_
 refine ay (false,.int (x1 - 20 * s.1+x2 * x3)) (by simp [m5,m9,m6,r2,r3,mx]) ?_
 refine ay (false,.int (x4 - s.2.1)) (by simp [m5,sl1,m2,r4]) ?_
 exact ao rfl rfl
theorem qM0 (c:Int) (m:Nat) (hm:m<=3) (s:dE) (hc:ck c) (ok:SclOk s) (R:Dr call) (C56:∀k:Nat,k<=100->call 57 [.int c,.int (k:Int),aO s]=zF (sD (gW c k s))) :
  ∃u:Th,cg u/\ae call [zF (.int c),zF (.int (m:Int)),zF (aO s),none,none,none] f_law_thing_by.body=some (.rt (false,av m u)):=by
 have p18:fL 10 18=true:=by decide
 have p30:fL 10 30=true:=by decide
 have m2:∀x:Int,dH 2 x=true:=λx=>eW 2 x (by decide)
 have l2:2<=lim:=bf (by decide)
 have l3:3<=lim:=bf (by decide)
 have l4:4<=lim:=bf (by decide)
 have r22:=R c 22 2 hc (by omega) (by omega)
 have b22:=bL c 22 2 (by decide)
 have r23:=R c 23 65536 hc (by omega) (by omega)
 have b23:=bL c 23 65536 (by decide)
 have r23':=R c 23 8 hc (by omega) (by omega)
 have b23':=bL c 23 8 (by decide)
 have r24:=R c 24 3 hc (by omega) (by omega)
 have b24:=bL c 24 3 (by decide)
 have r25:=R c 25 7 hc (by omega) (by omega)
 have r26:=R c 26 (2 * 10^(30:Int).toNat+1) hc (by omega) (by decide)
 have r27:=R c 27 2 hc (by omega) (by omega)
 have b27:=bL c 27 2 (by decide)
 have r90:=R c 21 90 hc (by omega) (by omega)
 have r91:=R c 21 (10^(18:Int).toNat+1) hc (by omega) (by decide)
 generalize aT c 22 2=x22 at *
 generalize aT c 23 65536=x23 at *
 generalize aT c 23 8=y23 at *
 generalize aT c 24 3=x24 at *
 generalize aT c 25 7=x25 at *
 generalize aT c 26 (2 * 10^(30:Int).toNat+1)=x26 at *
 generalize aT c 27 2=x27 at *
 obtain⟨hd,ehd⟩:∃hd,call 55 [.int c,.int 21,if x22=0 then .int 90 else .int (10^(18:Int).toNat+1)]=zF (.int hd):=by
  rcases qU b22 with e|e
  ·rw [Ql e];exact⟨_,r90⟩
  ·rw [Qm (by omega)];exact⟨_,r91⟩
 obtain⟨mr,hmr,emr⟩:∃mr:Nat,mr<65536/\(if x24=0 then D.int x23 else if x24=1 then .int y23 else .int 65535)=.int (mr:Int):=by
  rcases mh b24 with e|e|e
  ·exact⟨x23.toNat,by omega,by rw [Ql e,o8 b23.1]⟩
  ·exact⟨y23.toNat,by omega,by rw [Qm (by omega),Ql e,o8 b23'.1]⟩
  ·exact⟨65535,by decide,by rw [Qm (by omega),Qm (by omega)];rfl⟩
 obtain⟨wo,ewo⟩:∃wo,(if x27=0 then D.int (x25 - 3) else .int (x26 - 10^(30:Int).toNat))=.int wo:=by
  rcases qU b27 with e|e
  ·exact⟨_,Ql e⟩
  ·exact⟨_,Qm (by omega)⟩
 have e1:=vR (.int 90) (.int (10^(18:Int).toNat+1)) x22 b22
 have e2:=oy (.int x23) (.int y23) (.int 65535) x24 b24
 have e3:=vR (.int (x25 - 3)) (.int (x26 - 10^(30:Int).toNat)) x27 b27
 rw [emr] at e2
 rw [ewo] at e3
 refine⟨⟨hd,λj=>gW c j s,mr,wo⟩,⟨λj=>qS3 c j s ok,hmr⟩,?_⟩
 refine ay (false,.int hd) (by simp only [fe,ff,ag,ax,bQ,bP,bE,ei,cQ,bS,fI,pk,lO,dB,eO,nY,p18,↓reduceIte,iQ,eh,cI,eC,Nat.reduceAdd,l2,eZ,r22,e1,ehd]) ?_
 refine ay (false,.int (mr:Int)) (by simp [r23,r23',l3,r24,e2]) ?_
 refine ay (false,.int wo) (by simp only [gz,i6,kQ,kR,fI,pk,lO,dB,eO,fe,ff,ag,ax,bQ,bP,bE,ei,cQ,bS,eZ,r25,rM,nY,p30,↓reduceIte,nX,m2,iQ,r26,eh,cI,eC,Nat.reduceAdd,l2,r27,e3]) ?_
 have hc':aa call [zF (.int c),zF (.int (m:Int)),zF (aO s),zF (.int hd),zF (.int (mr:Int)),zF (.int wo)] (.compR (.call 57 [V1,V0,V2]) 1 [0,2] (.one 0) [V1])=zT (.lst (bx m λj=>sD (gW c j s))):=
  rj (Z':=[none,zF (.int c),zF (aO s)]) rfl (nJ (by omega)) (by rw [bA,mR];exact bf (by omega)) rfl (qJh (λj=>sD (gW c j s)) λj hj=>⟨false,by have:=C56 j (by omega);simp [this]⟩)
 have hb:=dG (CK hc') (show bZ .tuple [.lst (bx m λj=>sD (gW c j s))]=zF (.tup (bx m λj=>sD (gW c j s))) from rfl)
 refine ao ?_ rfl
 show aa call [zF (.int c),zF (.int (m:Int)),zF (aO s),zF (.int hd),zF (.int (mr:Int)),zF (.int wo)] (.tup [_,_,_,_])=_
 rw [eQ,dB,dB,hb]
 simp [l4]
 rfl
theorem qJ8 (cs:List Int) (m:Nat) (s:dE) (hl:cs.length<=100) (C57:∀c∈cs,∃u:Th,cg u/\call 58 [.int c,.int (m:Int),aO s]=zF (av m u)) :
  ∃ts:List Th,(∀u∈ts,cg u)/\ts.length<=cs.length/\ae call [zF (.lst (cs.map .int)),zF (.int (m:Int)),zF (aO s),none,none,none] f_law_things_by.body=some (.rt (true,.lst (ts.map (av m)))):=by
 obtain⟨Z',h,o4,o5,ts,h1,h2,rfl⟩:=jC (tg:=.one 4) (body:=x8)
  (λk Z=>∃(o4 o5:Option R) (ts:List Th),(∀u∈ts,cg u)/\ts.length<=k/\Z=[zF (.lst (cs.map .int)),zF (.int (m:Int)),zF (aO s),zT (.lst (ts.map (av m))),o4,o5]) (cs.map .int) 0
  [zF (.lst (cs.map .int)),zF (.int (m:Int)),zF (aO s),zT (.lst []),none,none] ⟨none,none,[],by simp,mP _,rfl⟩ (by
   rintro k d Z hk ⟨o4,o5,ts,h1,h2,rfl⟩
   rw [iu] at hk
   obtain⟨c,hc,rfl⟩:=zAo.mp hk
   have hk2:k<cs.length:=(zBo.mp hc).1
   obtain⟨u,hu,e⟩:=C57 c (mU hc)
   have hcomp:aa call [zF (.lst (cs.map .int)),zF (.int (m:Int)),zF (aO s),zT (.lst (ts.map (av m))),zF (.int c),zF (av m u)] (.compS (.ix V0 (kI 0)) 1 [] (.one 0) V3)=zT (.lst (ts.map λv=>.int v.hd)):=
    qOX rfl rfl (eN call _ (av m) (λv=>.int v.hd) ts λv _=>⟨_,false,rfl,by simp [yv]⟩)
   have nb:bT (ts.map λv=>D.int v.hd)=true:=by rw [kq];simp
   have hin:dq .notin (.int u.hd) (.lst (ts.map λv=>.int v.hd))=zF (.bl (!(dj (ts.map λv=>.int v.hd) (.int u.hd)))):=by
    show (if (bI 19 (.int u.hd)&&(br (.int u.hd)&&bT (ts.map λv=>D.int v.hd)))=true then zF (D.bl (if true then !(dj (ts.map λv=>.int v.hd) (.int u.hd)) else dj (ts.map λv=>.int v.hd) (.int u.hd))) else none)=_
    rw [nb]
    rfl
   have ht:aa call [zF (.lst (cs.map .int)),zF (.int (m:Int)),zF (aO s),zT (.lst (ts.map (av m))),zF (.int c),zF (av m u)] (.cmp .notin (.ix V5 (kI 0)) (.compS (.ix V0 (kI 0)) 1 [] (.one 0) V3))=zF (.bl (!(dj (ts.map λv=>.int v.hd) (.int u.hd)))):=
    bX rfl (iR hcomp) hin
   generalize (!(dj (ts.map λv=>D.int v.hd) (.int u.hd)))=b at ht
   cases b with
   | true =>
    refine⟨_,_,rfl,?_,zF (.int c),zF (av m u),ts++[u],λv hv=>?_,by rw [dF];simp;omega,rfl⟩
    ·refine ay _ e ?_
     refine fY ht (km _ rfl rfl (j9 (by rw [bA];omega)) rfl) ?_
     rw [fh]
     rfl
    ·rcases zBv.mp hv with hv|hv
     ·exact h1 v hv
     ·obtain rfl:=zBu.mp hv
      exact hu
   | false =>
    refine⟨_,_,rfl,?_,zF (.int c),zF (av m u),ts,h1,by omega,rfl⟩
    refine ay _ e ?_
    exact aq ht rfl)
 rw [bA,iq] at h2
 refine⟨ts,h1,h2,?_⟩
 refine ay _ rfl ?_
 refine ki rfl rfl h ?_
 exact ao rfl rfl
end
end Dw.T
namespace Dw.T
open Dw
def jD (c:Int) (k:Nat) (s:dE):P2:=(aT c (40+2 * (k:Int)) (44 * s.1+1) - 22 * s.1,aT c (40+2 * (k:Int)) (44 * s.1+1) - 22 * s.1+aT c (41+2 * (k:Int)) (24 * s.1+1))
theorem zx (c:Int) (k:Nat) (s:dE) (ok:SclOk s):BdA (jD c k s):=by
 have h1:=ok.a
 have b1:=bL c (40+2 * (k:Int)) (44 * s.1+1) (by omega)
 have b2:=bL c (41+2 * (k:Int)) (24 * s.1+1) (by omega)
 unfold BdA jD
 simp only
 omega
def oP:At->Prop
 | .crosses _ a b=>b<=a+5
 | _=>True
def aD (m:Nat):Wt->D
 | .atm a=>cf m a
 | .both x y=>.tup [tx "both",aD m x,aD m y]
 | .eith x y=>.tup [tx "either",aD m x,aD m y]
 | .unl x=>.tup [tx "unless",aD m x]
def eo:Wt->Prop
 | .atm a=>oP a
 | .both x y=>eo x/\eo y
 | .eith x y=>eo x/\eo y
 | .unl x=>eo x
section
variable {call:Nat->List D->Option R}
theorem zU (c:Int) (m:Nat) (hm:m<=3) (s:dE) (hc:ck c) (ok:SclOk s) (dr:Dr call):ae call [zF (.int c),zF (.int (m:Int)),zF (aO s),none,none,none] f_law_box_by.body=some (.rt (false,af m λj=>jD c j s)):=by
 have h1:=ok.a
 have m2:∀x:Int,dH 2 x=true:=λx=>eW 2 x (by decide)
 have m44:∀x:Int,dH 44 x=true:=λx=>eW 44 x (by decide)
 have m22:∀x:Int,dH 22 x=true:=λx=>eW 22 x (by decide)
 have m24:∀x:Int,dH 24 x=true:=λx=>eW 24 x (by decide)
 have l2:2<=lim:=bf (by decide)
 obtain⟨Z',h,o4,o5,rfl⟩:=rD (call:=call) (tg:=.one 4) (body:=x6)
  (λk Z=>∃o4 o5:Option R,Z=[zF (.int c),zF (.int (m:Int)),zF (aO s),zT (.lst (bx k λj=>bK (jD c j s))),o4,o5]) m (λi=>.int (i:Nat))
  [zF (.int c),zF (.int (m:Int)),zF (aO s),zT (.lst []),none,none] ⟨none,none,rfl⟩ (by
   rintro k Z hk ⟨o4,o5,rfl⟩
   have r1:=dr c (40+2 * (k:Int)) (44 * s.1+1) hc (by omega) (by omega)
   have r2:=dr c (41+2 * (k:Int)) (24 * s.1+1) hc (by omega) (by omega)
   refine⟨_,_,rfl,?_,zF (.int (k:Int)),zF (.int (aT c (40+2 * (k:Int)) (44 * s.1+1) - 22 * s.1)),rfl⟩
   refine ay (false,.int (aT c (40+2 * (k:Int)) (44 * s.1+1) - 22 * s.1)) (by simp [m2,m9,m44,r1,m22]) ?_
   have ap:bx (k+1) (λj=>bK (jD c j s))=bx k (λj=>bK (jD c j s))++[bK (jD c k s)]:=by unfold bx;rw [pF,fh];rfl
   rw [ap]
   exact km _ (by simp [m2,m9,m24,r2,l2];rfl) rfl (j9 (by simp [bx];omega)) rfl)
 refine ay _ rfl ?_
 refine uQ rfl (nJ (by omega)) h ?_
 exact ao rfl rfl
theorem kG {x:Int}(l:List D) (k:Nat) (d:D) (h:l[k]?=some d) (e:x=(k:Int)):aH (.lst l) (.int x)=zF d:=by
 subst e
 have hl:=(zBo.mp h).1
 rw [lB]
 unfold gf gI
 rw [BC _ _ hl]
 simp [h]
theorem qNg (c:Int) (m:Nat) (s:dE) (hc:ck c) (ok:SclOk s) (dr:Dr call) (C67:call 68 [.int c,.int (m:Int),aO s]=zF (af m λj=>jD c j s)) :
  ∃a:At,iE a/\oP a/\ae call [zF (.int c),zF (.int (m:Int)),zF (aO s),none,none,none,none] f_law_atom_by.body=some (.rt (false,cf m a)):=by
 have h1:=ok.a
 have h3:=ok.c
 obtain⟨f,hf,C67⟩:∃f:Nat->P2,(∀j,BdA (f j))/\call 68 [.int c,.int (m:Int),aO s]=zF (af m f):=⟨_,λj=>zx c j s ok,C67⟩
 have r50:=dr c 50 9 hc (by omega) (by omega)
 have b50:=bL c 50 9 (by decide)
 have l1:1<=lim:=bf (by decide)
 have l2:2<=lim:=bf (by decide)
 have l3:3<=lim:=bf (by decide)
 have l4:4<=lim:=bf (by decide)
 generalize aT c 50 9=w at r50 b50
 obtain⟨a,ha,hx,ea⟩:∃a:At,iE a/\oP a/\ae call [zF (.int c),zF (.int (m:Int)),zF (aO s),zF (.int w),zF (af m f),none,none] (f_law_atom_by.body.drop 2)=some (.rt (false,cf m a)):=by
  by_cases w0:w=0
  ·exact⟨.any,trivial,trivial,aU (x:=false) (by simp [w0,gj]) (ao rfl rfl) rfl⟩
  have s0:∀z,ae call [zF (.int c),zF (.int (m:Int)),zF (aO s),zF (.int w),zF (af m f),none,none] (f_law_atom_by.body.drop 3)=z->ae call [zF (.int c),zF (.int (m:Int)),zF (aO s),zF (.int w),zF (af m f),none,none] (f_law_atom_by.body.drop 2)=z:=λz hz=>aq (x:=false) (by simp only [gD,pk,ax,cm,bQ,bP,bE,cj,cQ,bS,n0,gj,w0];simp) hz
  by_cases w3:w<4
  ·have ht:decide (w<4)=true:=Qk w3
   have key:∀(a:At) (k:Nat),cf m a=.tup [[tx "meets",tx "inside",tx "holds"].getD k .non,af m f]->k<3->w - 1=(k:Int)->ae call [zF (.int c),zF (.int (m:Int)),zF (aO s),zF (.int w),zF (af m f),none,none] (f_law_atom_by.body.drop 3)=some (.rt (false,cf m a)):=λa k e hk hw=>by
    have e3:=kG [tx "meets",tx "inside",tx "holds"] k ([tx "meets",tx "inside",tx "holds"].getD k .non) (by rw [pq,kP (by simpa using hk)];rfl) hw
    rw [e]
    exact aU (x:=false) (by simp [ht]) (ao (by
     show aa call [zF (.int c),zF (.int (m:Int)),zF (aO s),zF (.int w),zF (af m f),none,none] (.tup [(.ix (.lst [(.k (tx "meets")),(.k (tx "inside")),(.k (tx "holds"))]) (.bin .sub V3 (kI 1))),V4])=_
     simp [l3,e3,l2]) rfl) rfl
   have:w=1∨w=2∨w=3:=by omega
   rcases this with rfl|rfl|rfl
   ·exact⟨.meets f,hf,trivial,s0 _ (key (.meets f) 0 rfl (by decide) rfl)⟩
   ·exact⟨.inside f,hf,trivial,s0 _ (key (.inside f) 1 rfl (by decide) rfl)⟩
   ·exact⟨.holds f,hf,trivial,s0 _ (key (.holds f) 2 rfl (by decide) rfl)⟩
  have s1:∀z,ae call [zF (.int c),zF (.int (m:Int)),zF (aO s),zF (.int w),zF (af m f),none,none] (f_law_atom_by.body.drop 4)=z->ae call [zF (.int c),zF (.int (m:Int)),zF (aO s),zF (.int w),zF (af m f),none,none] (f_law_atom_by.body.drop 2)=z:=λz hz=>s0 z (aq (by simp only [gD,pk,ax,cm,bQ,bP,bE,cj,cQ,bS,kh];rw [Qj w3]) hz)
  by_cases w4:w=4
  ·have r51:=dr c 51 201 hc (by omega) (by omega)
   have b51:=bL c 51 201 (by decide)
   have p2:fL s.1 2=true:=Qk ⟨by omega,by decide,by decide⟩
   have m51:=eW (aT c 51 201) (s.1^(2:Int).toNat) (by omega)
   exact⟨.near f (aT c 51 201 * s.1^(2:Int).toNat),hf,trivial,s1 _ (aU (x:=false) (by simp [w4,gj]) (ao (by simp only [gy,eQ,dB,cQ,qr,jk,ax,cm,bQ,bP,eO,pk,fe,ff,ag,bE,ei,bS,eZ,r51,fI,cj,m9,nY,p2,↓reduceIte,nX,m51,eh,cI,eC,Nat.reduceAdd,l3];rfl) rfl) rfl)⟩
  have s2:∀z,ae call [zF (.int c),zF (.int (m:Int)),zF (aO s),zF (.int w),zF (af m f),none,none] (f_law_atom_by.body.drop 5)=z->ae call [zF (.int c),zF (.int (m:Int)),zF (aO s),zF (.int w),zF (af m f),none,none] (f_law_atom_by.body.drop 2)=z:=λz hz=>s1 z (aq (x:=false) (by simp only [gD,pk,ax,cm,bQ,bP,bE,cj,cQ,bS,n0,gj,w4];simp) hz)
  by_cases w5:w=5
  ·have r25:=dr c 25 7 hc (by omega) (by omega)
   have r52:=dr c 52 (2 * 10^(30:Int).toNat+1) hc (by omega) (by decide)
   have p30:fL 10 30=true:=by decide
   have m2:∀x:Int,dH 2 x=true:=λx=>eW 2 x (by decide)
   have d2:fK 2=true:=by decide
   have bc:=uf c 2 (by decide)
   have e2:=vR (.int (aT c 25 7 - 3)) (.int (aT c 52 (2 * 10^(30:Int).toNat+1) - 10^(30:Int).toNat)) (c.fmod 2) bc
   obtain⟨v,ev⟩:∃v,(if c.fmod 2=0 then D.int (aT c 25 7 - 3) else .int (aT c 52 (2 * 10^(30:Int).toNat+1) - 10^(30:Int).toNat))=.int v:=by
    by_cases q:c.fmod 2=0
    ·exact⟨_,Ql q⟩
    ·exact⟨_,Qm q⟩
   rw [ev] at e2
   exact⟨.worthy v,trivial,trivial,s2 _ (aU (x:=false) (by simp [w5,gj]) (ao (by simp only [gy,eQ,dB,cQ,fI,pk,lO,eO,fe,ff,ag,ax,bQ,bP,bE,ei,bS,eZ,r25,rM,nY,p30,↓reduceIte,nX,m2,iQ,r52,eh,cI,eC,Nat.reduceAdd,l2,cj,qLz,d2,e2];rfl) rfl) rfl)⟩
  have s3:∀z,ae call [zF (.int c),zF (.int (m:Int)),zF (aO s),zF (.int w),zF (af m f),none,none] (f_law_atom_by.body.drop 6)=z->ae call [zF (.int c),zF (.int (m:Int)),zF (aO s),zF (.int w),zF (af m f),none,none] (f_law_atom_by.body.drop 2)=z:=λz hz=>s2 z (aq (x:=false) (by simp only [gD,pk,ax,cm,bQ,bP,bE,cj,cQ,bS,n0,gj,w5];simp) hz)
  by_cases w6:w=6
  ·have r53:=dr c 53 s.2.2 hc (by omega) (by omega)
   have b53:=bL c 53 s.2.2 (by omega)
   have r54:=dr c 54 5 hc (by omega) (by omega)
   have b54:=bL c 54 5 (by decide)
   have p15:fL 10 15=true:=by decide
   generalize aT c 53 s.2.2=x at *
   generalize aT c 54 5=y at *
   have e15:(10:Int)^(15:Int).toNat=10^15:=rfl
   refine⟨.crosses f x (min (10^(15:Int).toNat) (x+y)),⟨hf,by omega,by rw [e15];omega⟩,by show min (10^(15:Int).toNat) (x+y)<=x+5;rw [e15];omega,s3 _ (aU (x:=false) (by simp [w6,gj]) ?_ rfl)⟩
   refine ay (false,.int x) (by simp [gv,r53]) ?_
   exact ao (by simp [p15,r54,l4];rfl) rfl
  have s4:∀z,ae call [zF (.int c),zF (.int (m:Int)),zF (aO s),zF (.int w),zF (af m f),none,none] (f_law_atom_by.body.drop 7)=z->ae call [zF (.int c),zF (.int (m:Int)),zF (aO s),zF (.int w),zF (af m f),none,none] (f_law_atom_by.body.drop 2)=z:=λz hz=>s3 z (aq (x:=false) (by simp only [gD,pk,ax,cm,bQ,bP,bE,cj,cQ,bS,n0,gj,w6];simp) hz)
  have r55:=dr c 55 8 hc (by omega) (by omega)
  have b55:=bL c 55 8 (by decide)
  have r56:=dr c 56 65536 hc (by omega) (by omega)
  have b56:=bL c 56 65536 (by decide)
  have r57:=dr c 57 3 hc (by omega) (by omega)
  have b57:=bL c 57 3 (by decide)
  generalize aT c 55 8=x at *
  generalize aT c 56 65536=y at *
  generalize aT c 57 3=q at *
  have e3:=oy (.int x) (.int y) (.int 0) q b57
  obtain⟨k,ek⟩:∃k:Nat,(if q=0 then D.int x else if q=1 then .int y else .int 0)=.int (k:Int):=by
   rcases mh b57 with e|e|e
   ·exact⟨x.toNat,by rw [Ql e,o8 b55.1]⟩
   ·exact⟨y.toNat,by rw [Qm (by omega),Ql e,o8 b56.1]⟩
   ·exact⟨0,by rw [Qm (by omega),Qm (by omega)];rfl⟩
  rw [ek] at e3
  have key:∀(a:At) (j:Nat),cf m a=.tup [[tx "marked",tx "touched"].getD j .non,.int (k:Int)]->j<2->w - 7=(j:Int)->ae call [zF (.int c),zF (.int (m:Int)),zF (aO s),zF (.int w),zF (af m f),none,none] (f_law_atom_by.body.drop 7)=some (.rt (false,cf m a)):=λa j e hj hw=>by
   have e2:=kG [tx "marked",tx "touched"] j ([tx "marked",tx "touched"].getD j .non) (by rw [pq,kP (by simpa using hj)];rfl) hw
   rw [e]
   refine ay (false,.int (k:Int)) (by simp [r55,r56,l3,r57,e3]) ?_
   refine ao ?_ rfl
   show aa call [zF (.int c),zF (.int (m:Int)),zF (aO s),zF (.int w),zF (af m f),none,zF (.int (k:Int))] (.tup [(.ix (.lst [(.k (tx "marked")),(.k (tx "touched"))]) (.bin .sub V3 (kI 7))),V6])=_
   simp [l2,e2]
  have:w=7∨w=8:=by omega
  rcases this with rfl|rfl
  ·exact⟨.marked k,trivial,trivial,s4 _ (key (.marked k) 0 rfl (by decide) rfl)⟩
  ·exact⟨.touched k,trivial,trivial,s4 _ (key (.touched k) 1 rfl (by decide) rfl)⟩
 refine⟨a,ha,hx,?_⟩
 refine ay _ r50 ?_
 exact ay _ C67 ea
theorem CG (m:Nat) (a:At):ae call [zF (cf m a)] f_law_atom_of.body=some (.rt (false,bU m a)):=by
 cases a with
 | any=>exact aq rfl (aq rfl (aq rfl (aq rfl (aq rfl (aq rfl (aq rfl (aq rfl (ao rfl rfl))))))))
 | meets f=>exact aU rfl (ao rfl rfl) rfl
 | inside f=>exact aq rfl (aU rfl (ao rfl rfl) rfl)
 | holds f=>exact aq rfl (aq rfl (aU rfl (ao rfl rfl) rfl))
 | near f r=>exact aq rfl (aq rfl (aq rfl (aU rfl (ao rfl rfl) rfl)))
 | worthy w=>exact aq rfl (aq rfl (aq rfl (aq rfl (aU rfl (ao rfl rfl) rfl))))
 | crosses f a b=>exact aq rfl (aq rfl (aq rfl (aq rfl (aq rfl (aU rfl (ao rfl rfl) rfl)))))
 | marked k=>exact aq rfl (aq rfl (aq rfl (aq rfl (aq rfl (aq rfl (aU rfl (ao rfl rfl) rfl))))))
 | touched k=>exact aq rfl (aq rfl (aq rfl (aq rfl (aq rfl (aq rfl (aq rfl (aU rfl (ao rfl rfl) rfl)))))))
theorem CI (m:Nat) (w:Wt) (C70:∀a,call 71 [cf m a]=zF (bU m a)) (C71:∀x,dp x<dp w->call 72 [aD m x]=zF (aE m x)):ae call [zF (aD m w)] f_law_want_of.body=some (.rt (false,aE m w)):=by
 cases w with
 | atm a =>
  have sk:∀x:String,(x="both"∨x="either"∨x="unless")->aa call [zF (aD m (.atm a))] (.cmp .eq (.ix V0 (kI 0)) (.k (tx x)))=zF (.bl false):=λx hx=>by
   rcases hx with rfl|rfl|rfl<;>cases a<;>rfl
  refine aq (sk "both" (.inl rfl)) (aq (sk "either" (.inr (.inl rfl))) (aq (sk "unless" (.inr (.inr rfl))) ?_))
  have:=C70 a
  exact ao (r:=(false,bU m a)) (by show aa call [zF (cf m a)] _=_;simp [this]) rfl
 | both x y =>
  have hx:=C71 x (by show dp x<max (dp x) (dp y)+1;omega)
  have hy:=C71 y (by show dp y<max (dp x) (dp y)+1;omega)
  have g1:aH (aD m (.both x y)) (.int 1)=zF (aD m x):=rfl
  have g2:aH (aD m (.both x y)) (.int 2)=zF (aD m y):=rfl
  exact aU rfl (ao (by simp [g1,hx,g2,hy];rfl) rfl) rfl
 | eith x y =>
  have hx:=C71 x (by show dp x<max (dp x) (dp y)+1;omega)
  have hy:=C71 y (by show dp y<max (dp x) (dp y)+1;omega)
  have g1:aH (aD m (.eith x y)) (.int 1)=zF (aD m x):=rfl
  have g2:aH (aD m (.eith x y)) (.int 2)=zF (aD m y):=rfl
  exact aq rfl (aU rfl (ao (by simp [g1,hx,g2,hy];rfl) rfl) rfl)
 | unl x =>
  have hx:=C71 x (by show dp x<dp x+1;omega)
  have g1:aH (aD m (.unl x)) (.int 1)=zF (aD m x):=rfl
  exact aq rfl (aq rfl (aU rfl (ao (by simp [g1,hx];rfl) rfl) rfl))
end
end Dw.T
namespace Dw.T
open Dw
theorem qVx {α:Type}(f:α->D) (x:α) (l:List α):dU ((x::l).map f) (some 1) none=l.map f:=by
 unfold dU
 simp [gO]
theorem DT {p q p' q':Prop} [Decidable p] [Decidable q] [Decidable p'] [Decidable q'] (h:p↔p') (k:q↔q'):(decide p||decide q)=(decide p'||decide q'):=by rw [decide_eq_decide.mpr h,decide_eq_decide.mpr k]
section
variable {call:Nat->List D->Option R}
theorem qM5 (c0:Int) (cs:List Int) (m:Nat) (s:dE) (hcs:∀c∈c0::cs,ck c) (dr:Dr call) (C68:∀c,ck c->∃a:At,iE a/\oP a/\call 69 [.int c,.int (m:Int),aO s]=zF (cf m a)) :
  ∃w:Wt,cT w/\eo w/\dp w<=2 * cs.length/\ae call [zF (.lst ((c0::cs).map .int)),zF (.int (m:Int)),zF (aO s),none,none,none] f_law_plain_by.body=some (.rt (false,aD m w)):=by
 have l1:1<=lim:=bf (by decide)
 have l2:2<=lim:=bf (by decide)
 have l3:3<=lim:=bf (by decide)
 obtain⟨a0,h0,x0,e0⟩:=C68 c0 (hcs c0 ir)
 obtain⟨Z',h,o4,o5,w,hw,xw,dw,rfl⟩:=jC
  (λk Z=>∃(o4 o5:Option R) (w:Wt),cT w/\eo w/\dp w<=2 * k/\Z=[zF (.lst ((c0::cs).map .int)),zF (.int (m:Int)),zF (aO s),zF (aD m w),o4,o5]) (cs.map .int) 0
  [zF (.lst ((c0::cs).map .int)),zF (.int (m:Int)),zF (aO s),zF (aD m (.atm a0)),none,none] ⟨none,none,.atm a0,h0,x0,mP _,rfl⟩ (by
   rintro k d Z hk ⟨o4,o5,w,hw,xw,dw,rfl⟩
   rw [iu] at hk
   obtain⟨c,hc,rfl⟩:=zAo.mp hk
   have okc:=hcs c (jH _ (mU hc))
   obtain⟨a,ha,xa,ea⟩:=C68 c okc
   have r:=dr c 58 5 okc (by omega) (by omega)
   have b:=bL c 58 5 (by decide)
   generalize aT c 58 5=y at r b
   have fin:∀z:Wt,cT z->eo z->dp z<=dp w+2->ae call [zF (.lst ((c0::cs).map .int)),zF (.int (m:Int)),zF (aO s),zF (aD m w),zF (.int c),zF (.int y)] (zbD.drop 1)=some (.nx [zF (.lst ((c0::cs).map .int)),zF (.int (m:Int)),zF (aO s),zF (aD m z),zF (.int c),zF (.int y)]) ->
     ∃Z1 Z2,de [zF (.lst ((c0::cs).map .int)),zF (.int (m:Int)),zF (aO s),zF (aD m w),o4,o5] (.one 4) (.int c)=some Z1/\ae call Z1 zbD=some (.nx Z2)/\∃(o4 o5:Option R) (w:Wt),cT w/\eo w/\dp w<=2 * (0+k+1)/\Z2=[zF (.lst ((c0::cs).map .int)),zF (.int (m:Int)),zF (aO s),zF (aD m w),o4,o5]:=λz h1 h2 h3 hz =>
    ⟨_,_,rfl,ay _ r hz,_,_,z,h1,h2,by omega,rfl⟩
   by_cases y2:y<2
   ·have ht:decide (y<2)=true:=Qk y2
    have go:∀(z:Wt) (j:Nat),aD m z=.tup [[tx "both",tx "either"].getD j .non,aD m w,cf m a]->j<2->y=(j:Int)->ae call [zF (.lst ((c0::cs).map .int)),zF (.int (m:Int)),zF (aO s),zF (aD m w),zF (.int c),zF (.int y)] (zbD.drop 1)=some (.nx [zF (.lst ((c0::cs).map .int)),zF (.int (m:Int)),zF (aO s),zF (aD m z),zF (.int c),zF (.int y)]):=λz j e hj hy=>by
     have e2:=kG [tx "both",tx "either"] j ([tx "both",tx "either"].getD j .non) (by rw [pq,kP (by simpa using hj)];rfl) hy
     rw [e]
     refine fY (x:=false) (by simp [ht]) (ay (false,.tup [[tx "both",tx "either"].getD j .non,aD m w,cf m a]) ?_ rfl) rfl
     show aa call [zF (.lst ((c0::cs).map .int)),zF (.int (m:Int)),zF (aO s),zF (aD m w),zF (.int c),zF (.int y)] (.tup [(.ix (.lst [(.k (tx "both")),(.k (tx "either"))]) V5),V3,(.call 69 [V4,V1,V2])])=_
     simp [l2,e2,ea,l3]
    have:y=0∨y=1:=by omega
    rcases this with rfl|rfl
    ·exact fin (.both w (.atm a)) ⟨hw,ha⟩ ⟨xw,xa⟩ (by show max (dp w) 0+1<=_;omega) (go (.both w (.atm a)) 0 rfl (by decide) rfl)
    ·exact fin (.eith w (.atm a)) ⟨hw,ha⟩ ⟨xw,xa⟩ (by show max (dp w) 0+1<=_;omega) (go (.eith w (.atm a)) 1 rfl (by decide) rfl)
   ·by_cases y4:y<4
    ·have hf:decide (y<2)=false:=Qj y2
     have ht:decide (y<4)=true:=Qk y4
     have go:∀(z:Wt) (j:Nat),aD m z=.tup [[tx "both",tx "either"].getD j .non,.tup [tx "unless",cf m a],aD m w]->j<2->y - 2=(j:Int)->ae call [zF (.lst ((c0::cs).map .int)),zF (.int (m:Int)),zF (aO s),zF (aD m w),zF (.int c),zF (.int y)] (zbD.drop 1)=some (.nx [zF (.lst ((c0::cs).map .int)),zF (.int (m:Int)),zF (aO s),zF (aD m z),zF (.int c),zF (.int y)]):=λz j e hj hy=>by
      have e2:=kG [tx "both",tx "either"] j ([tx "both",tx "either"].getD j .non) (by rw [pq,kP (by simpa using hj)];rfl) hy
      rw [e]
      refine qg (x:=false) (by simp [hf]) (fY (x:=false) (by simp [ht]) (ay (false,.tup [[tx "both",tx "either"].getD j .non,.tup [tx "unless",cf m a],aD m w]) ?_ rfl) rfl) rfl
      show aa call [zF (.lst ((c0::cs).map .int)),zF (.int (m:Int)),zF (aO s),zF (aD m w),zF (.int c),zF (.int y)] (.tup [(.ix (.lst [(.k (tx "both")),(.k (tx "either"))]) (.bin .sub V5 (kI 2))),(.tup [(.k (tx "unless")),(.call 69 [V4,V1,V2])]),V3])=_
      simp [l2,e2,ea,l3]
     have:y=2∨y=3:=by omega
     rcases this with rfl|rfl
     ·exact fin (.both (.unl (.atm a)) w) ⟨ha,hw⟩ ⟨xa,xw⟩ (by show max (0+1) (dp w)+1<=_;omega) (go (.both (.unl (.atm a)) w) 0 rfl (by decide) rfl)
     ·exact fin (.eith (.unl (.atm a)) w) ⟨ha,hw⟩ ⟨xa,xw⟩ (by show max (0+1) (dp w)+1<=_;omega) (go (.eith (.unl (.atm a)) w) 1 rfl (by decide) rfl)
    ·refine fin (.unl w) hw xw (by show dp w+1<=_;omega) (qg (by simp only [eB,gD,pk,ax,cm,bQ,bP,bE,cj,cQ,bS,kh];rw [Qj y2]) (qg (by simp only [eB,gD,pk,ax,cm,bQ,bP,bE,cj,cQ,bS,kh];rw [Qj y4]) (ay _ rfl rfl) rfl) rfl))
 rw [bA,iq] at dw
 refine⟨w,hw,xw,dw,?_⟩
 have g0:aH (.lst ((c0::cs).map .int)) (.int 0)=zF (.int c0):=by rw [eB,lB,zu];rfl
 have hn:dq .ne (.lst (D.int c0::cs.map .int)) (.lst [])=zF (.bl true):=by rw [rh];split<;>rfl
 have hcut:dU (D.int c0::cs.map .int) (some 1) none=cs.map .int:=qVx D.int c0 cs
 refine ay _ rfl ?_
 refine fY hn (ay _ (by simp [e0];rfl) rfl) ?_
 refine ki (r:=(true,.lst (cs.map .int))) (by simp [hcut]) rfl h ?_
 exact ao rfl rfl
theorem qUV (m:Nat) (c:Fr) (t:Int) (ht:t.natAbs<2^64):ae call [zF (bp m c),zF (.int t)] f_law_at.body=some (.rt (false,af m (qA c t))):=by
 have hc:=hU (call:=call) (Z:=[zF (bp m c),zF (.int t)]) (e:=(.tup [(.bin .add (.ix V0 (kI 0)) (.bin .mul (.ix V0 (kI 2)) V1)),(.bin .add (.ix V0 (kI 1)) (.bin .mul (.ix V0 (kI 3)) V1))])) (nl:=1) (ks:=[1]) (src:=.v 0) rfl rfl rfl
  (rE (r:=[zF (.int t)]) (λj=>q4 (c j)) (λj=>bK (qA c t j)) λj hj=>⟨false,by
   have m1:=lp (c j).2.2.1 t ht
   have m2:=lp (c j).2.2.2 t ht
   simp only [eQ,dB,eO,pk,fI,ax,bQ,bP,bE,cj,cQ,bS,ou,oq,cm,nX,m1,↓reduceIte,iQ,ot,om,m2,eh,cI,eC,Nat.reduceAdd,jT];rfl⟩)
 exact ao (dG (iR hc) rfl) rfl
theorem Ba {m:Nat}{p:Nat->Bool}:(List.range m).all p=!((List.range m).any λj=>!p j):=by
 rw [List.all_eq_not_any_not]
theorem qMZ (m:Nat) (hm:m<=3) (g f:Nat->P2):ae call [zF (af m g),zF (af m f),none] f_law_touch.body=some (.rt (false,.bl (fA m g f))):=by
 have hl:bZ .len [af m g]=zF (.int (m:Int)):=by show bZ .len [.tup (bx m _)]=_;rw [vg,vk]
 have e1:∀(j:Nat) (o:Option R),j<m->aa call [zF (af m g),zF (af m f),zF (.int (j:Int))] (.or (.cmp .gt (.ix (.ix V0 V2) (kI 0)) (.ix (.ix V1 V2) (kI 1))) (.cmp .gt (.ix (.ix V1 V2) (kI 0)) (.ix (.ix V0 V2) (kI 1))))=zF (.bl (!sm (g j) (f j))):=λj o hj=>by
  have g1:=lT g hj
  have g2:=lT f hj
  refine Eq.trans (jq (p:=decide ((f j).2<(g j).1)) (q:=decide ((g j).2<(f j).1)) (x:=false) (by simp [g1,hW,g2,hX]) (by simp [g2,hW,g1,hX])) ?_
  unfold sm
  rw [Bool.not_and,<-decide_not,<-decide_not]
  exact congrArg (λb=>zF (D.bl b)) (DT (by constructor<;>intro h<;>omega) (by constructor<;>intro h<;>omega))
 unfold fA
 rw [Ba]
 refine AE (p:=λj=>!sm (g j) (f j)) (ds:=[.int (m:Int)]) (r:=(false,.bl false)) (fun Z=>∃o:Option R,Z=[zF (af m g),zF (af m f),o]) (by simp [hl]) (nJ (by omega)) ⟨_,rfl⟩ ?_ ?_ ?_ ?_
 ·rintro j hj hp Z ⟨o,rfl⟩
  have hp:(!sm (g j) (f j))=true:=hp
  exact aU (by have:=e1 j o hj;rw [hp] at this;exact this) (ao rfl rfl) rfl
 ·rintro j hj hp Z ⟨o,rfl⟩
  have hp:(!sm (g j) (f j))=false:=hp
  exact⟨_,aq (by have:=e1 j o hj;rw [hp] at this;exact this) rfl,_,rfl⟩
 ·intro h
  rw [h]
  rfl
 ·rintro h Z ⟨o,rfl⟩
  rw [h]
  exact ao rfl rfl
theorem qPN (m:Nat) (hm:m<=3) (g f:Nat->P2):ae call [zF (af m g),zF (af m f),none] f_law_lies_in.body=some (.rt (false,.bl (eT m g f))):=by
 have hl:bZ .len [af m g]=zF (.int (m:Int)):=by show bZ .len [.tup (bx m _)]=_;rw [vg,vk]
 have e1:∀(j:Nat) (o:Option R),j<m->aa call [zF (af m g),zF (af m f),zF (.int (j:Int))] (.or (.cmp .lt (.ix (.ix V0 V2) (kI 0)) (.ix (.ix V1 V2) (kI 0))) (.cmp .gt (.ix (.ix V0 V2) (kI 1)) (.ix (.ix V1 V2) (kI 1))))=zF (.bl (!si (g j) (f j))):=λj o hj=>by
  have g1:=lT g hj
  have g2:=lT f hj
  refine Eq.trans (jq (p:=decide ((g j).1<(f j).1)) (q:=decide ((f j).2<(g j).2)) (x:=false) (by simp [g1,hW,g2]) (by simp [g1,hX,g2])) ?_
  unfold si
  rw [Bool.not_and,<-decide_not,<-decide_not]
  exact congrArg (λb=>zF (D.bl b)) (DT (by constructor<;>intro h<;>omega) (by constructor<;>intro h<;>omega))
 unfold eT
 rw [Ba]
 refine AE (p:=λj=>!si (g j) (f j)) (ds:=[.int (m:Int)]) (r:=(false,.bl false)) (fun Z=>∃o:Option R,Z=[zF (af m g),zF (af m f),o]) (by simp [hl]) (nJ (by omega)) ⟨_,rfl⟩ ?_ ?_ ?_ ?_
 ·rintro j hj hp Z ⟨o,rfl⟩
  have hp:(!si (g j) (f j))=true:=hp
  exact aU (by have:=e1 j o hj;rw [hp] at this;exact this) (ao rfl rfl) rfl
 ·rintro j hj hp Z ⟨o,rfl⟩
  have hp:(!si (g j) (f j))=false:=hp
  exact⟨_,aq (by have:=e1 j o hj;rw [hp] at this;exact this) rfl,_,rfl⟩
 ·intro h
  rw [h]
  rfl
 ·rintro h Z ⟨o,rfl⟩
  rw [h]
  exact ao rfl rfl
theorem qNa (m:Nat) (hm:m<=3) (g f:Nat->P2) (hg:∀j,cH (g j)) (hf:∀j,cH (f j)):ae call [zF (af m g),zF (af m f),none,none,none] f_law_gap_of.body=some (.rt (false,.int (bN m g f))):=by
 have hl:bZ .len [af m g]=zF (.int (m:Int)):=by show bZ .len [.tup (bx m _)]=_;rw [vg,vk]
 obtain⟨Z',h,o3,o4,rfl⟩:=rD (call:=call) (tg:=.one 3) (body:=x5)
  (λk Z=>∃o3 o4:Option R,Z=[zF (af m g),zF (af m f),zF (.int (bN k g f)),o3,o4]) m (λi=>.int (i:Nat))
  [zF (af m g),zF (af m f),zF (.int 0),none,none] ⟨none,none,rfl⟩ (by
   rintro k Z hk ⟨o3,o4,rfl⟩
   have g1:=lT g hk
   have g2:=lT f hk
   have gb:=zo (hg k) (hf k)
   have mm:=tO (gp (g k) (f k)) (gp (g k) (f k)) (by omega) (by omega)
   have e:bN (k+1) g f=bN k g f+gp (g k) (f k) * gp (g k) (f k):=by unfold bN;rw [pF,fh,List.sum_append];simp
   have hmx:bZ .max [.int 0,.int ((g k).1 - (f k).2),.int ((f k).1 - (g k).2)]=zF (.int (gp (g k) (f k))):=by
    show some (false,D.int _)=some (false,_)
    congr 3
    unfold gp
    split<;>split<;>omega
   rw [e]
   refine⟨_,_,rfl,?_,zF (.int (k:Int)),zF (.int (gp (g k) (f k))),rfl⟩
   refine ay (false,.int (gp (g k) (f k))) (by simp [g1,hW,g2,hX,hmx]) ?_
   exact ay (false,.int (bN k g f+gp (g k) (f k) * gp (g k) (f k))) (by simp [mm]) rfl)
 refine ay _ rfl ?_
 refine uQ (by simp [hl]) (nJ (by omega)) h ?_
 exact ao rfl rfl
end
end Dw.T
namespace Dw.T
open Dw
structure L8 (call:Nat->List D->Option R) (m:Nat):Prop where
 at_:∀(c:Fr) (t:Int),t.natAbs<2^64->call 64 [bp m c,.int t]=zF (af m (qA c t))
 touch:∀g f:Nat->P2,call 65 [af m g,af m f]=zF (.bl (fA m g f))
 lies:∀g f:Nat->P2,call 66 [af m g,af m f]=zF (.bl (eT m g f))
 gap:∀g f:Nat->P2,(∀j,cH (g j))->(∀j,cH (f j))->call 67 [af m g,af m f]=zF (.int (bN m g f))
theorem qPd (k:Nat) (p:Nat->Bool):bZ .any [.lst ((List.range k).map λi=>.bl (p i))]=zF (.bl ((List.range k).any p)):=by
 show (g9 _).map _=_
 rw [rB]
 show zF (D.bl (((List.range k).map p).any id))=_
 rw [List.any_map]
 rfl
section
variable {call:Nat->List D->Option R}
theorem CU (m:Nat) (a:At) (ha:iE a) (hx:oP a) (u:Th) (hu:cg u) (t:Int) (ht:0<=t/\t<=10^15) (O:L8 call m) :
  ae call [zF (cf m a),zF (av m u),zF (.int t),none] f_law_atom_suits.body=some (.rt (false,.bl (gs m a u t))):=by
 have la:=O.at_ (aP u) t (by omega)
 rw [<-zk] at la
 have hb:=λj=>jY (iO hu) ht j
 have n1:(0:Int)<=(u.mr:Int):=by omega
 refine ay (false,af m (qA (aP u) t)) (by simp [tH,la]) ?_
 cases a with
 | any=>exact aq rfl (aq rfl (aq rfl (aq rfl (aq rfl (aq rfl (aq rfl (aq rfl (ao rfl rfl))))))))
 | meets f =>
  have q:=O.touch (qA (aP u) t) f
  have g1:aH (cf m (.meets f)) (.int 1)=zF (af m f):=rfl
  exact aU rfl (ao (r:=(false,.bl (fA m (qA (aP u) t) f))) (by simp [g1,q]) rfl) rfl
 | inside f =>
  have q:=O.lies (qA (aP u) t) f
  have g1:aH (cf m (.inside f)) (.int 1)=zF (af m f):=rfl
  exact aq rfl (aU rfl (ao (r:=(false,.bl (eT m (qA (aP u) t) f))) (by simp [g1,q]) rfl) rfl)
 | holds f =>
  have q:=O.lies f (qA (aP u) t)
  have g1:aH (cf m (.holds f)) (.int 1)=zF (af m f):=rfl
  exact aq rfl (aq rfl (aU rfl (ao (r:=(false,.bl (eT m f (qA (aP u) t)))) (by simp [g1,q]) rfl) rfl))
 | near f r =>
  have q:=O.gap (qA (aP u) t) f hb λj=>(ha j).b
  have g1:aH (cf m (.near f r)) (.int 1)=zF (af m f):=rfl
  have g2:aH (cf m (.near f r)) (.int 2)=zF (.int r):=rfl
  exact aq rfl (aq rfl (aq rfl (aU rfl (ao (r:=(false,.bl (decide (bN m (qA (aP u) t) f<=r)))) (by simp [g1,q,g2]) rfl) rfl)))
 | worthy w =>
  have g1:aH (cf m (.worthy w)) (.int 1)=zF (.int w):=rfl
  exact aq rfl (aq rfl (aq rfl (aq rfl (aU rfl (ao rfl rfl) rfl))))
 | crosses f a b =>
  obtain⟨hf,h1,h2⟩:=ha
  have hx:b<=a+5:=hx
  have g1:aH (cf m (.crosses f a b)) (.int 1)=zF (af m f):=rfl
  have g2:aH (cf m (.crosses f a b)) (.int 2)=zF (.int a):=rfl
  have g3:aH (cf m (.crosses f a b)) (.int 3)=zF (.int b):=rfl
  have hc:aa call [zF (cf m (.crosses f a b)),zF (av m u),zF (.int t),zF (af m (qA (aP u) t))] (.compR (.call 65 [(.call 64 [(.ix V1 (kI 1)),V0]),(.ix V2 (kI 1))]) 1 [1,0] (.one 0) [(.ix V0 (kI 2)),(.bin .add (.ix V0 (kI 3)) (kI 1))])=zT (.lst ((List.range (b+1 - a).toNat).map λi=>.bl (fA m (qA (aP u) (a+(i:Nat))) f))):=
   rj (Z':=[none,zF (av m u),zF (cf m (.crosses f a b))]) rfl rfl (by rw [bA,mR];exact bf (by omega)) rfl
    (eN call _ (λi:Nat=>.int (a+(i:Nat))) (λi=>.bl (fA m (qA (aP u) (a+(i:Nat))) f)) (List.range (b+1 - a).toNat) λi hi=>⟨_,false,rfl,by
     have hi:=zBa.mp hi
     have c1:=O.at_ (aP u) (a+(i:Nat)) (by omega)
     rw [<-zk] at c1
     have c2:=O.touch (qA (aP u) (a+(i:Nat))) f
     simp [tH,c1,g1,c2]⟩)
  refine aq rfl (aq rfl (aq rfl (aq rfl (aq rfl (aU rfl (ao (r:=(false,.bl (dc (Cm m (aP u) f a b)))) ?_ rfl) rfl)))))
  rw [<-qRK]
  exact dG (CK hc) (qPd _ _)
 | marked k =>
  have g1:aH (cf m (.marked k)) (.int 1)=zF (.int (k:Int)):=rfl
  have n2:(0:Int)<=(k:Int):=by omega
  exact aq rfl (aq rfl (aq rfl (aq rfl (aq rfl (aq rfl (aU rfl (ao rfl rfl) rfl))))))
 | touched k =>
  have g1:aH (cf m (.touched k)) (.int 1)=zF (.int (k:Int)):=rfl
  have n2:(0:Int)<=(k:Int):=by omega
  exact aq rfl (aq rfl (aq rfl (aq rfl (aq rfl (aq rfl (aq rfl (aU rfl (ao rfl rfl) rfl)))))))
theorem CH (m:Nat) (w:Wt) (u:Th) (t:Int) (C72:∀a,w=.atm a->call 73 [cf m a,av m u,.int t]=zF (.bl (gs m a u t))) (C73:∀x,dp x<dp w->(cT w->cT x)->(eo w->eo x)->call 74 [aD m x,av m u,.int t]=zF (.bl (bW m u t x))) :
  ae call [zF (aD m w),zF (av m u),zF (.int t)] f_law_suits.body=some (.rt (false,.bl (bW m u t w))):=by
 cases w with
 | atm a =>
  have sk:∀x:String,(x="both"∨x="either"∨x="unless")->aa call [zF (aD m (.atm a)),zF (av m u),zF (.int t)] (.cmp .eq (.ix V0 (kI 0)) (.k (tx x)))=zF (.bl false):=λx hx=>by
   rcases hx with rfl|rfl|rfl<;>cases a<;>rfl
  refine aq (sk "both" (.inl rfl)) (aq (sk "either" (.inr (.inl rfl))) (aq (sk "unless" (.inr (.inr rfl))) ?_))
  have:=C72 a rfl
  exact ao (r:=(false,.bl (gs m a u t))) (by show aa call [zF (cf m a),zF (av m u),zF (.int t)] _=_;simp [this]) rfl
 | both x y =>
  have hx:=C73 x (by show dp x<max (dp x) (dp y)+1;omega) (λh=>h.1) (λh=>h.1)
  have hy:=C73 y (by show dp y<max (dp x) (dp y)+1;omega) (λh=>h.2) (λh=>h.2)
  have g1:aH (aD m (.both x y)) (.int 1)=zF (aD m x):=rfl
  have g2:aH (aD m (.both x y)) (.int 2)=zF (aD m y):=rfl
  exact aU rfl (ao (iM (x:=false) (y:=false) (by simp [g1,hx]) (by simp [g2,hy])) rfl) rfl
 | eith x y =>
  have hx:=C73 x (by show dp x<max (dp x) (dp y)+1;omega) (λh=>h.1) (λh=>h.1)
  have hy:=C73 y (by show dp y<max (dp x) (dp y)+1;omega) (λh=>h.2) (λh=>h.2)
  have g1:aH (aD m (.eith x y)) (.int 1)=zF (aD m x):=rfl
  have g2:aH (aD m (.eith x y)) (.int 2)=zF (aD m y):=rfl
  exact aq rfl (aU rfl (ao (jq (x:=false) (by simp [g1,hx]) (by simp [g2,hy])) rfl) rfl)
 | unl x =>
  have hx:=C73 x (by show dp x<dp x+1;omega) (λh=>h) (λh=>h)
  have g1:aH (aD m (.unl x)) (.int 1)=zF (aD m x):=rfl
  exact aq rfl (aq rfl (aU rfl (ao (r:=(false,.bl (!bW m u t x))) (by simp [g1,hx]) rfl) rfl))
end
theorem l8 (n m:Nat) (hm:m<=3):L8 (aG tab (n+1)) m:=
 ⟨λc t ht=>au rfl rfl rfl (qUV m c t ht),λg f=>au rfl rfl rfl (qMZ m hm g f),λg f=>au rfl rfl rfl (qPN m hm g f),λg f hg hf=>au rfl rfl rfl (qNa m hm g f hg hf)⟩
theorem lA (m:Nat) (w:Wt) (ds:List D):aQ false (aD m w::ds)=zF (aD m w)::aQ false ds:=by
 cases w with
 | atm a=>cases a<;>rfl
 | _=>rfl
theorem Cy (m:Nat) (hm:m<=3) (u:Th) (hu:cg u) (t:Int) (ht:0<=t/\t<=10^15):∀(k:Nat) (w:Wt),dp w<=k->cT w->eo w->∀n,aG tab (n+k+3) 74 [aD m w,av m u,.int t]=zF (.bl (bW m u t w))
 | 0,w,hd,h,x,n=>by
  refine au (n:=n+2) rfl rfl (by show aQ false (aD m w::_)++_=_;rw [lA];rfl) (CH m w u t (λa e=>?_) λy hy _ _=>Qn hy (by omega))
  subst e
  exact au (n:=n+1) rfl rfl (by cases a<;>rfl) (CU m a h x u hu t ht (l8 n m hm))
 | k+1,w,hd,h,x,n=>by
  refine au (n:=n+k+3) rfl rfl (by show aQ false (aD m w::_)++_=_;rw [lA];rfl) (CH m w u t (λa e=>?_) λy hy h1 h2=>Cy m hm u hu t ht k y (by omega) (h1 h) (h2 x) n)
  subst e
  exact au (n:=n+k+2) rfl rfl (by cases a<;>rfl) (CU m a h x u hu t ht (l8 (n+k+1) m hm))
theorem Ca (m:Nat):∀(k:Nat) (w:Wt),dp w<=k->∀n,aG tab (n+k+2) 72 [aD m w]=zF (aE m w)
 | 0,w,hd,n=>by
  refine au (n:=n+1) rfl rfl (by show aQ false (aD m w::_)++_=_;rw [lA];rfl) (CI m w (λa=>au (n:=n) rfl rfl (by cases a<;>rfl) (CG m a)) λy hy=>Qn hy (by omega))
 | k+1,w,hd,n=>by
  refine au (n:=n+k+2) rfl rfl (by show aQ false (aD m w::_)++_=_;rw [lA];rfl) (CI m w (λa=>au (n:=n+k+1) rfl rfl (by cases a<;>rfl) (CG m a)) λy hy=>Ca m k y (by omega) n)
end Dw.T
namespace Dw.T
open Dw
def jn (a b:Q4):Q4:=(min a.1 b.1,max a.2.1 b.2.1,min a.2.2.1 b.2.2.1,max a.2.2.2 b.2.2.2)
def nw (a b:Q4):Q4:=(max a.1 b.1,min a.2.1 b.2.1,max a.2.2.1 b.2.2.1,min a.2.2.2 b.2.2.2)
def qTd (a b:To):To:=⟨λj=>jn (a.cov j) (b.cov j),λj=>nw (a.hrt j) (b.hrt j),a.so ||| b.so,a.ev &&& b.ev,a.n+b.n,min a.lo b.lo,max a.hi b.hi,a.su+b.su⟩
def d8:Option To->Option To->Option To
 | none,b=>b
 | some a,none=>some a
 | some a,some b=>some (qTd a b)
def aV (m:Nat):Option To->D
 | none=>.non
 | some o=>aJ m o
def gu (u:Th):To:=⟨aP u,aP u,u.mr,u.mr,1,u.wo,u.wo,u.wo⟩
def GT (o:Option To) (ts:List Th):Prop:=match o with
 | none=>ts=[]
 | some o=>ts≠[]/\ToOk o/\∀u∈ts,Tl u o
theorem ve (x:Nat):x &&& x=x:=by apply sv;intro i;simp
theorem qRs {u:Th}(hu:cg u):GT (some (gu u)) [u]:=by
 have le:∀j,dJ (aP u j) (aP u j):=λj=>⟨iZ _,iZ _,iZ _,iZ _⟩
 refine⟨by simp,⟨iO hu,iO hu,le,ve _,iZ _⟩,λv hv=>?_⟩
 obtain rfl:=zBu.mp hv
 exact⟨le,le,ve _,ve _,iZ _,iZ _⟩
theorem ux {a x:Nat}(y:Nat) (h:a &&& x=a):a &&& (x ||| y)=a/\a &&& (y ||| x)=a:=by
 constructor
 all_goals
  apply sv
  intro i
  have:=congrArg (λz=>Nat.testBit z i) h
  simp only [Nat.testBit_and,Nat.testBit_or] at this ⊢
  revert this
  cases a.testBit i<;>cases x.testBit i<;>cases y.testBit i<;>simp
theorem uw {a x:Nat}(y:Nat) (h:a &&& x=a):(a &&& y) &&& x=a &&& y/\(y &&& a) &&& x=y &&& a:=by
 constructor
 all_goals
  apply sv
  intro i
  have:=congrArg (λz=>Nat.testBit z i) h
  simp only [Nat.testBit_and] at this ⊢
  revert this
  cases a.testBit i<;>cases x.testBit i<;>cases y.testBit i<;>simp
theorem BB {a b:Option To}{xs ys:List Th}(ha:GT a xs) (hb:GT b ys):GT (d8 a b) (xs++ys):=by
 cases a with
 | none =>
  have ha:xs=[]:=ha
  subst ha
  exact hb
 | some a =>
  cases b with
  | none =>
   have hb:ys=[]:=hb
   subst hb
   rw [eV]
   exact ha
  | some b =>
   obtain⟨n1,o1,l1⟩:=ha
   obtain⟨n2,o2,l2⟩:=hb
   refine⟨by simp [n1],⟨λj=>?_,λj=>?_,λj=>?_,?_,?_⟩,λu hu=>?_⟩
   ·have h1:=o1.cov j
    have h2:=o2.cov j
    unfold iY at h1 h2
    show iY (jn (a.cov j) (b.cov j))
    unfold iY jn
    simp only
    omega
   ·have h1:=o1.hrt j
    have h2:=o2.hrt j
    unfold iY at h1 h2
    show iY (nw (a.hrt j) (b.hrt j))
    unfold iY nw
    simp only
    omega
   ·have h1:=o1.le j
    have h2:=o2.le j
    unfold dJ at h1 h2
    show dJ (jn (a.cov j) (b.cov j)) (nw (a.hrt j) (b.hrt j))
    unfold dJ jn nw
    simp only
    omega
   ·exact (uw b.ev (ux b.so o1.mr).1).1
   ·show min a.lo b.lo<=max a.hi b.hi
    have:=o1.wo
    omega
   ·rcases zBv.mp hu with hu|hu
    ·have l:=l1 u hu
     refine⟨λj=>?_,λj=>?_,(ux b.so l.so).1,(uw b.ev l.ev).1,?_,?_⟩
     ·have h:=l.c j
      unfold dJ at h
      show dJ (jn (a.cov j) (b.cov j)) (aP u j)
      unfold dJ jn
      simp only
      omega
     ·have h:=l.h j
      unfold dJ at h
      show dJ (aP u j) (nw (a.hrt j) (b.hrt j))
      unfold dJ nw
      simp only
      omega
     ·show min a.lo b.lo<=u.wo
      have:=l.lo
      omega
     ·show u.wo<=max a.hi b.hi
      have:=l.hi
      omega
    ·have l:=l2 u hu
     refine⟨λj=>?_,λj=>?_,(ux a.so l.so).2,(uw a.ev l.ev).2,?_,?_⟩
     ·have h:=l.c j
      unfold dJ at h
      show dJ (jn (a.cov j) (b.cov j)) (aP u j)
      unfold dJ jn
      simp only
      omega
     ·have h:=l.h j
      unfold dJ at h
      show dJ (aP u j) (nw (a.hrt j) (b.hrt j))
      unfold dJ nw
      simp only
      omega
     ·show min a.lo b.lo<=u.wo
      have:=l.lo
      omega
     ·show u.wo<=max a.hi b.hi
      have:=l.hi
      omega
section
variable {call:Nat->List D->Option R}
theorem qUQ (a b:Q4):ae call [zF (q4 a),zF (q4 b)] f_side_joined.body=some (.rt (false,q4 (jn a b))):=by
 have l4:4<=lim:=bf (by decide)
 have mn:∀x y:Int,bZ .min [.int x,.int y]=zF (.int (min x y)):=λx y=>by show some (false,D.int (if y<x then y else x))=some (false,_);congr 3;split<;>omega
 have mx:∀x y:Int,bZ .max [.int x,.int y]=zF (.int (max x y)):=λx y=>by show some (false,D.int (if y > x then y else x))=some (false,_);congr 3;split<;>omega
 exact ao (by simp [ou,mn,ot,mx,oq,om,l4];rfl) rfl
theorem qUP (a b:Q4):ae call [zF (q4 a),zF (q4 b)] f_side_narrowed.body=some (.rt (false,q4 (nw a b))):=by
 have l4:4<=lim:=bf (by decide)
 have mn:∀x y:Int,bZ .min [.int x,.int y]=zF (.int (min x y)):=λx y=>by show some (false,D.int (if y<x then y else x))=some (false,_);congr 3;split<;>omega
 have mx:∀x y:Int,bZ .max [.int x,.int y]=zF (.int (max x y)):=λx y=>by show some (false,D.int (if y > x then y else x))=some (false,_);congr 3;split<;>omega
 exact ao (by simp [ou,mx,ot,mn,oq,om,l4];rfl) rfl
theorem qUT (m:Nat) (a b:Fr) (C:∀p q:Q4,call 2 [q4 p,q4 q]=zF (q4 (jn p q))):ae call [zF (bp m a),zF (bp m b)] f_frames_joined.body=some (.rt (false,bp m λj=>jn (a j) (b j))):=by
 have hc:aa call [zF (bp m a),zF (bp m b)] (.compZ (.call 2 [V0,V1]) 2 [] (.two 0 1) V0 V1)=zT (.lst (bx m λj=>q4 (jn (a j) (b j)))):=by
  refine nP rfl rfl rfl rfl rfl ?_
  rw [qW]
  exact eN call _ _ (λj=>q4 (jn (a j) (b j))) (List.range m) λj _=>⟨_,false,rfl,by have:=C (a j) (b j);simp [this]⟩
 exact ao (dG (congrArg (Option.map (λx:R=>x.2)) hc) rfl) rfl
theorem qUS (m:Nat) (a b:Fr) (C:∀p q:Q4,call 3 [q4 p,q4 q]=zF (q4 (nw p q))):ae call [zF (bp m a),zF (bp m b)] f_frames_narrowed.body=some (.rt (false,bp m λj=>nw (a j) (b j))):=by
 have hc:aa call [zF (bp m a),zF (bp m b)] (.compZ (.call 3 [V0,V1]) 2 [] (.two 0 1) V0 V1)=zT (.lst (bx m λj=>q4 (nw (a j) (b j)))):=by
  refine nP rfl rfl rfl rfl rfl ?_
  rw [qW]
  exact eN call _ _ (λj=>q4 (nw (a j) (b j))) (List.range m) λj _=>⟨_,false,rfl,by have:=C (a j) (b j);simp [this]⟩
 exact ao (dG (congrArg (Option.map (λx:R=>x.2)) hc) rfl) rfl
theorem qUM (m:Nat) (u:Th) (C9:call 9 [av m u]=zF (bp m (aP u))) (C10:call 10 [av m u]=zF (.int (u.mr:Int))) (C11:call 11 [av m u]=zF (.int u.wo)):ae call [zF (av m u),none,none,none] f_thing_told.body=some (.rt (false,aJ m (gu u))):=by
 have l8:8<=lim:=bf (by decide)
 refine ay _ C9 ?_
 refine ay _ C10 ?_
 refine ay _ C11 ?_
 exact ao rfl rfl
theorem to4 (m:Nat) (o:To):aH (aJ m o) (.int 4)=zF (.int o.n):=rfl
theorem to7 (m:Nat) (o:To):aH (aJ m o) (.int 7)=zF (.int o.su):=rfl
theorem qUN (m:Nat) (a b:Option To) (C6:∀c d:Fr,call 6 [bp m c,bp m d]=zF (bp m λj=>jn (c j) (d j))) (C7:∀c d:Fr,call 7 [bp m c,bp m d]=zF (bp m λj=>nw (c j) (d j))) :
  ae call [zF (aV m a),zF (aV m b)] f_told_poured.body=some (.rt (false,aV m (d8 a b))):=by
 have l8:8<=lim:=bf (by decide)
 cases a with
 | none=>exact aU rfl (ao rfl rfl) rfl
 | some a =>
  cases b with
  | none=>exact aq rfl (aU rfl (ao rfl rfl) rfl)
  | some b =>
   have c6:=C6 a.cov b.cov
   have c7:=C7 a.hrt b.hrt
   have mn:∀x y:Int,bZ .min [.int x,.int y]=zF (.int (min x y)):=λx y=>by show some (false,D.int (if y<x then y else x))=some (false,_);congr 3;split<;>omega
   have mx:∀x y:Int,bZ .max [.int x,.int y]=zF (.int (max x y)):=λx y=>by show some (false,D.int (if y > x then y else x))=some (false,_);congr 3;split<;>omega
   have hb:d5 .bor (.int (a.so:Int)) (.int (b.so:Int))=zF (.int ((a.so ||| b.so:Nat):Int)):=by rw [qLA,Ql ⟨by omega,by omega⟩];rfl
   have ha:d5 .band (.int (a.ev:Int)) (.int (b.ev:Int))=zF (.int ((a.ev &&& b.ev:Nat):Int)):=by rw [qJE,Ql ⟨by omega,by omega⟩];rfl
   refine aq rfl (aq rfl ?_)
   refine ao ?_ rfl
   show aa call [zF (aJ m a),zF (aJ m b)] _=_
   simp [to0,c6,to1,c7,to2,hb,to3,ha,to4,to5,mn,to6,mx,to7,l8]
   rfl
theorem qUc (m:Nat) (a b:Option To):aQ false [aV m a,aV m b]=[zF (aV m a),zF (aV m b)]:=by
 cases a<;>cases b<;>rfl
theorem qSL (m:Nat) (l:List (Option To)) (C20:∀a b,call 20 [aV m a,aV m b]=zF (aV m (d8 a b))):ae call [zF (.tup (l.map (aV m))),none,none] f_tolds_poured.body=some (.rt (false,aV m (l.foldl d8 none))):=by
 obtain⟨Z',h,o2,rfl⟩:=jC (tg:=.one 2) (body:=xZ)
  (λk Z=>∃o2:Option R,Z=[zF (.tup (l.map (aV m))),zF (aV m ((l.take k).foldl d8 none)),o2]) (l.map (aV m)) 0
  [zF (.tup (l.map (aV m))),zF .non,none] ⟨none,rfl⟩ (by
   rintro k d Z hk ⟨o2,rfl⟩
   rw [iu] at hk
   obtain⟨b,hb,rfl⟩:=zAo.mp hk
   have et:l.take (0+k+1)=l.take (0+k)++[b]:=by rw [iq,List.take_add_one,hb];rfl
   rw [et,List.foldl_append]
   have:=C20 ((l.take (0+k)).foldl d8 none) b
   generalize (l.take (0+k)).foldl d8 none=a at this
   refine⟨_,_,rfl,?_,zF (aV m b),rfl⟩
   exact ay _ this rfl)
 rw [bA,iq,gO (fT _)] at h
 refine ay _ rfl ?_
 refine ki rfl rfl h ?_
 exact ao rfl rfl
end
theorem qVA (n m:Nat) (a b:Option To):aG tab (n+3) 20 [aV m a,aV m b]=zF (aV m (d8 a b)):=
 au (n:=n+2) rfl rfl (by show aQ false [aV m a,aV m b]++_=_;rw [qUc];rfl) (qUN m a b (λc d=>au (n:=n+1) rfl rfl rfl (qUT m c d λp q=>au (n:=n) rfl rfl rfl (qUQ p q))) λc d=>au (n:=n+1) rfl rfl rfl (qUS m c d λp q=>au (n:=n) rfl rfl rfl (qUP p q)))
theorem zA (n m:Nat) (l:List (Option To)):aG tab (n+4) 21 [.tup (l.map (aV m))]=zF (aV m (l.foldl d8 none)):=au (n:=n+3) rfl rfl rfl (qSL m l λa b=>qVA n m a b)
theorem qVz (n m:Nat) (u:Th):aG tab (n+2) 19 [av m u]=zF (aJ m (gu u)):=
 au (n:=n+1) rfl rfl rfl (qUM m u (au rfl rfl rfl (ao rfl rfl)) (au rfl rfl rfl (ao rfl rfl)) (au rfl rfl rfl (ao rfl rfl)))
end Dw.T
namespace Dw.T
open Dw
inductive Tr where
 | leaf (ts:List Th)|fork (ps:List Tr)
mutual
noncomputable def aC:Tr->List Th
 | .leaf ts=>ts
 | .fork ps=>aN ps
noncomputable def aN:List Tr->List Th
 | []=>[]
 | p::ps=>aC p++aN ps
end
mutual
noncomputable def hg:Tr->Nat
 | .leaf _=>0
 | .fork ps=>bY ps+1
noncomputable def bY:List Tr->Nat
 | []=>0
 | p::ps=>max (hg p) (bY ps)
end
mutual
noncomputable def nd:Tr->Nat
 | .leaf _=>1
 | .fork ps=>bw ps+1
noncomputable def bw:List Tr->Nat
 | []=>0
 | p::ps=>nd p+bw ps
end
mutual
def aw (m:Nat):Tr->D
 | .leaf ts=>.tup [tx "leaf",.tup (ts.map (av m))]
 | .fork ps=>.tup [tx "fork",.tup (jg m ps)]
def jg (m:Nat):List Tr->List D
 | []=>[]
 | p::ps=>aw m p::jg m ps
end
mutual
def tl:Tr->Option To
 | .leaf ts=>(ts.map λu=>some (gu u)).foldl d8 none
 | .fork ps=>(i9 ps).foldl d8 none
def i9:List Tr->List (Option To)
 | []=>[]
 | p::ps=>tl p::i9 ps
end
mutual
def aB (m:Nat):Tr->D
 | .leaf ts=>.tup [tx "leaf",aV m (tl (.leaf ts)),.tup (ts.map (av m))]
 | .fork ps=>.tup [tx "fork",aV m (tl (.fork ps)),.tup (pZ m ps)]
def pZ (m:Nat):List Tr->List D
 | []=>[]
 | p::ps=>aB m p::pZ m ps
end
theorem n9 (m:Nat):∀ps,jg m ps=ps.map (aw m)
 | []=>rfl
 | p::ps=>by rw [jg,n9 m ps];rfl
theorem vD (m:Nat):∀ps,pZ m ps=ps.map (aB m)
 | []=>rfl
 | p::ps=>by rw [pZ,vD m ps];rfl
theorem BQ:∀ps,i9 ps=ps.map tl
 | []=>rfl
 | p::ps=>by rw [i9,BQ ps];rfl
theorem iS:∀ps qs,aN (ps++qs)=aN ps++aN qs
 | [],qs=>rfl
 | p::ps,qs=>by rw [sC,aN,aN,iS ps qs,jG]
theorem nV:∀ps qs,bw (ps++qs)=bw ps+bw qs
 | [],qs=>by simp [bw]
 | p::ps,qs=>by rw [sC,bw,bw,nV ps qs];omega
theorem ju {ps:List Tr}{p:Tr}(h:p∈ps):hg p<=bY ps:=by
 induction ps with
 | nil=>cases h
 | cons q ps ih =>
  rw [bY]
  rcases zCb.mp h with rfl|h
  ·omega
  ·have:=ih h
   omega
theorem qO {ps:List Tr}{k:Nat}(h:∀p∈ps,hg p<=k):bY ps<=k:=by
 induction ps with
 | nil=>exact mP _
 | cons q ps ih =>
  rw [bY]
  have h1:=h q ir
  have h2:=ih λp hp=>h p (jH _ hp)
  omega
theorem Af (p:Tr):1<=nd p:=by cases p<;>simp [nd]
theorem nU:∀ps:List Tr,ps.length<=bw ps
 | []=>fT _
 | p::ps=>by have:=Af p;have:=nU ps;rw [bw,cI];omega
theorem BA:∀ts:List Th,(∀u∈ts,cg u)->∀(o:Option To) (xs:List Th),GT o xs->GT ((ts.map λu=>some (gu u)).foldl d8 o) (xs++ts)
 | [],_,o,xs,h=>by rw [eV];exact h
 | u::ts,hu,o,xs,h=>by
  have:=BA ts (λv hv=>hu v (jH _ hv)) (d8 o (some (gu u))) (xs++[u]) (BB h (qRs (hu u ir)))
  rw [jG] at this
  exact this
mutual
theorem ug:∀p:Tr,(∀u∈aC p,cg u)->GT (tl p) (aC p)
 | .leaf ts,h=>BA ts h none [] rfl
 | .fork ps,h=>z9 ps h none [] rfl
theorem z9:∀ps:List Tr,(∀u∈aN ps,cg u)->∀(o:Option To) (xs:List Th),GT o xs->GT ((i9 ps).foldl d8 o) (xs++aN ps)
 | [],_,o,xs,h=>by rw [aN,eV];exact h
 | p::ps,hu,o,xs,h=>by
  rw [aN] at hu
  have h1:=ug p λu z=>hu u (sx _ z)
  have:=z9 ps (λu z=>hu u (pj _ z)) (d8 o (tl p)) (xs++aC p) (BB h h1)
  rw [jG] at this
  rw [aN]
  exact this
end
theorem pg1 (m:Nat) (p:Tr):aH (aB m p) (.int 1)=zF (aV m (tl p)):=by cases p<;>rfl
noncomputable def dY:Tr->Bool
 | .leaf _=>true
 | .fork _=>false
def jl (m:Nat):Tr->List D
 | .leaf ts=>ts.map (av m)
 | .fork ps=>ps.map (aB m)
theorem pg2 (m:Nat) (p:Tr):aH (aB m p) (.int 2)=zF (.tup (jl m p)):=by
 cases p with
 | leaf ts=>rw [aB];rfl
 | fork ps=>rw [aB,vD];rfl
theorem qS (m:Nat) (p:Tr):∃ds,aB m p=.tup ds:=by cases p<;>exact⟨_,by rw [aB]⟩
theorem qQa (m:Nat) (p:Tr):∃ds,aw m p=.tup ds:=by cases p<;>exact⟨_,by rw [aw]⟩
theorem j0 (m:Nat) (p:Tr) (ds:List D):aQ false (aB m p::ds)=zF (aB m p)::aQ false ds:=by
 obtain⟨d,e⟩:=qS m p
 rw [e]
 rfl
theorem ny (m:Nat) (p:Tr) (ds:List D):aQ false (aw m p::ds)=zF (aw m p)::aQ false ds:=by
 obtain⟨d,e⟩:=qQa m p
 rw [e]
 rfl
section
variable {call:Nat->List D->Option R}
theorem qKd (m:Nat) (p:Tr):ae call [zF (aB m p)] f_is_leaf.body=some (.rt (false,.bl (dY p))):=by
 cases p with
 | leaf ts=>exact ao (by rw [aB];rfl) rfl
 | fork ps=>exact ao (by rw [aB];rfl) rfl
theorem BL (m:Nat) (p:Tr):ae call [zF (aB m p)] f_page_told.body=some (.rt (false,aV m (tl p))):=ao (by have:=pg1 m p;simp [this]) rfl
theorem qKb (m:Nat) (p:Tr):ae call [zF (aB m p)] f_page_parts.body=some (.rt (false,.tup (jl m p))):=ao (by have:=pg2 m p;simp [this]) rfl
theorem qM6 (m:Nat) (ts:List Th) (C25:call 25 [.tup (ts.map (av m))]=zF (.tup ((ts.map λu=>some (gu u)).map (aV m)))) (C21:∀l:List (Option To),call 21 [.tup (l.map (aV m))]=zF (aV m (l.foldl d8 none))) :
  ae call [zF (.tup (ts.map (av m)))] f_make_leaf.body=some (.rt (false,aB m (.leaf ts))):=by
 have l3:3<=lim:=bf (by decide)
 have c:=C21 (ts.map λu=>some (gu u))
 rw [aB]
 exact ao (by simp only [gy,eQ,dB,cQ,fe,ff,ag,ax,bQ,bP,bE,ei,eZ,C25,bS,c,qr,jk,eh,cI,eC,Nat.reduceAdd,l3,↓reduceIte];rfl) rfl
theorem qM7 (m:Nat) (ps:List Tr) (C26:call 26 [.tup (ps.map (aB m))]=zF (.tup ((i9 ps).map (aV m)))) (C21:∀l:List (Option To),call 21 [.tup (l.map (aV m))]=zF (aV m (l.foldl d8 none))) :
  ae call [zF (.tup (ps.map (aB m)))] f_make_fork.body=some (.rt (false,aB m (.fork ps))):=by
 have l3:3<=lim:=bf (by decide)
 have c:=C21 (i9 ps)
 rw [aB,vD]
 exact ao (by simp [C26,c,l3];rfl) rfl
theorem qHx (m:Nat) (ts:List Th) (C19:∀u,call 19 [av m u]=zF (aJ m (gu u))):ae call [zF (.tup (ts.map (av m)))] f_things_tolds.body=some (.rt (false,.tup ((ts.map λu=>some (gu u)).map (aV m)))):=by
 have hc:=hU (Z:=[zF (.tup (ts.map (av m)))]) (e:=(.call 19 [V0])) (nl:=1) (ks:=[]) (tg:=.one 0) (src:=.v 0) rfl rfl rfl
  (eN call _ (av m) (λu=>aJ m (gu u)) ts λu _=>⟨_,false,rfl,by have:=C19 u;simp [this]⟩)
 rw [oY]
 exact ao (dG (iR hc) rfl) rfl
theorem qHA (m:Nat) (ps:List Tr) (C23:∀p,call 23 [aB m p]=zF (aV m (tl p))):ae call [zF (.tup (ps.map (aB m)))] f_pages_tolds.body=some (.rt (false,.tup ((i9 ps).map (aV m)))):=by
 have hc:=hU (Z:=[zF (.tup (ps.map (aB m)))]) (e:=(.call 23 [V0])) (nl:=1) (ks:=[]) (tg:=.one 0) (src:=.v 0) rfl rfl rfl
  (eN call _ (aB m) (λp=>aV m (tl p)) ps λp _=>⟨_,false,rfl,by have:=C23 p;simp [this]⟩)
 rw [BQ,oY]
 exact ao (dG (iR hc) rfl) rfl
theorem qOY {Z:En}{o:BI}{as:List C}{b:Bool}{d:D}{f:Nat}{r:R}(h:aa call Z (.bi o as)=some (b,d)) (hc:call f [d]=some r):aa call Z (.call f [.bi o as])=some r:=by
 rw [Cg,Ci]
 show (((aa call Z (.bi o as)).map (λx:R=>x.2)).bind _).bind _=_
 rw [h]
 exact hc
theorem AI (m:Nat) (p:Tr) (C27:∀ts,call 27 [.tup (ts.map (av m))]=zF (aB m (.leaf ts))) (C28:∀ps,call 28 [.tup (ps.map (aB m))]=zF (aB m (.fork ps))) (C61:∀q,hg q<hg p->call 62 [aw m q]=zF (aB m q)) :
  ae call [zF (aw m p)] f_law_page_of.body=some (.rt (false,aB m p)):=by
 cases p with
 | leaf ts =>
  rw [aw]
  have:=C27 ts
  exact aU rfl (ao (by
   have g:aH (.tup [tx "leaf",.tup (ts.map (av m))]) (.int 1)=zF (.tup (ts.map (av m))):=rfl
   simp [g,this]) rfl) rfl
 | fork ps =>
  rw [aw,n9]
  have g:aH (.tup [tx "fork",.tup (ps.map (aw m))]) (.int 1)=zF (.tup (ps.map (aw m))):=rfl
  have hc:=hU (Z:=[zF (.tup [tx "fork",.tup (ps.map (aw m))])]) (e:=(.call 62 [V0])) (nl:=1) (ks:=[]) (tg:=.one 0) (src:=(.ix V0 (kI 1))) rfl rfl rfl
   (eN call _ (aw m) (aB m) ps λq hq=>⟨_,false,rfl,by have:=C61 q (by have:=ju hq;rw [hg];omega);simp [this]⟩)
  have hb:=dG (iR hc) (show bZ .tuple [.lst (ps.map (aB m))]=zF (.tup (ps.map (aB m))) from rfl)
  have c:=C28 ps
  refine aq rfl (ao ?_ rfl)
  exact qOY hb c
end
theorem AZ (n m:Nat) (ts:List Th):aG tab (n+5) 27 [.tup (ts.map (av m))]=zF (aB m (.leaf ts)):=
 au (n:=n+4) rfl rfl rfl (qM6 m ts (au (n:=n+3) rfl rfl rfl (qHx m ts λu=>qVz (n+1) m u)) λl=>zA n m l)
theorem AY (n m:Nat) (ps:List Tr):aG tab (n+5) 28 [.tup (ps.map (aB m))]=zF (aB m (.fork ps)):=
 au (n:=n+4) rfl rfl rfl (qM7 m ps (au (n:=n+3) rfl rfl rfl (qHA m ps λp=>au (n:=n+2) rfl rfl (by show aQ false (aB m p::_)++_=_;rw [j0];rfl) (BL m p))) λl=>zA n m l)
theorem AA (m:Nat):∀(k:Nat) (p:Tr),hg p<=k->∀n,aG tab (n+k+6) 62 [aw m p]=zF (aB m p)
 | 0,p,h,n=>au (n:=n+5) rfl rfl (by show aQ false (aw m p::_)++_=_;rw [ny];rfl) (AI m p (AZ n m) (AY n m) λq hq=>Qn hq (by omega))
 | k+1,p,h,n=>au (n:=n+k+6) rfl rfl (by show aQ false (aw m p::_)++_=_;rw [ny];rfl) (AI m p (AZ (n+k+1) m) (AY (n+k+1) m) λq hq=>AA m k q (by omega) n)
end Dw.T
namespace Dw.T
open Dw PySem
theorem CJ {α:Type}{l:List α}{k:Nat}{x:α}(h:l[k]?=some x):l.take (k+1)=l.take k++[x]:=by rw [List.take_add_one,h];rfl
theorem qHo (ps:List Tr) (k:Nat):(aN (ps.take k)).length<=(aN ps).length:=by
 have:=iS (ps.take k) (ps.drop k)
 rw [pd] at this
 rw [this,dF]
 omega
section
variable {call:Nat->List D->Option R}
theorem BM (m:Nat) (p:Tr) (hl:(aC p).length<=1000) (C62:∀q,hg q<hg p->(aC q).length<=1000->∃b,call 63 [aw m q]=some (b,.lst ((aC q).map (av m)))):∃b,ae call [zF (aw m p),none,none] f_law_under.body=some (.rt (b,.lst ((aC p).map (av m)))):=by
 cases p with
 | leaf ts =>
  rw [aw]
  exact⟨true,aU rfl (ao rfl rfl) rfl⟩
 | fork ps =>
  rw [aw,n9]
  have hl:(aN ps).length<=1000:=by rw [aC] at hl;exact hl
  obtain⟨Z',h,o2,b,rfl⟩:=jC (call:=call) (tg:=.one 2) (body:=xY)
   (λk Z=>∃(o2:Option R) (b:Bool),Z=[zF (.tup [tx "fork",.tup (ps.map (aw m))]),zF (.lst ((aN (ps.take k)).map (av m))),o2]) (ps.map (aw m)) 0
   [zF (.tup [tx "fork",.tup (ps.map (aw m))]),zF (.lst []),none] ⟨none,false,rfl⟩ (by
    rintro k d Z hk ⟨o2,_,rfl⟩
    rw [iu] at hk
    obtain⟨q,hq,rfl⟩:=zAo.mp hk
    have hm:=mU hq
    have h1:aN (ps.take (0+k+1))=aN (ps.take (0+k))++aC q:=by rw [iq,CJ hq,iS];simp [aN]
    have h2:=qHo ps (0+k+1)
    rw [h1,dF] at h2
    obtain⟨b,hb⟩:=C62 q (by have:=ju hm;rw [hg];omega) (by omega)
    have ha:d5 .add (.lst ((aN (ps.take (0+k))).map (av m))) (.lst ((aC q).map (av m)))=zT (.lst ((aN (ps.take (0+k+1))).map (av m))):=by
     rw [h1,fh]
     show (if _+_<=lim then _ else _)=_
     rw [Ql (bf (by rw [bA,bA];omega))]
    refine⟨_,_,rfl,?_,zF (aw m q),b,rfl⟩
    exact ay (true,.lst ((aN (ps.take (0+k+1))).map (av m))) (by simp only [kQ,kR,eO,pk,ax,cm,bQ,bP,bE,cj,fe,ff,ag,ei,eZ,hb,bS,ha]) rfl)
  rw [bA,iq,gO (fT _)] at h
  have g:aH (.tup [tx "fork",.tup (ps.map (aw m))]) (.int 1)=zF (.tup (ps.map (aw m))):=rfl
  refine⟨false,aq rfl ?_⟩
  refine ay _ rfl ?_
  refine ki rfl rfl h ?_
  exact ao rfl rfl
def cJ (m:Nat) (t:Int) (w:Wt) (ts:List Th):List Th:=ts.filter λu=>bW m u t w
theorem qHy (m:Nat) (t:Int) (w:Wt) (ts:List Th) (C:∀u∈ts,call (gS w) [aE m w,av m u,.int t]=zF (.bl (bW m u t w))) :
  ae call [zF (.tup (ts.map (av m))),zF (aE m w),zF (.int t)] f_suiting_in.body=some (.rt (false,.tup ((cJ m t w ts).map (av m)))):=by
 have hc:aa call [zF (.tup (ts.map (av m))),zF (aE m w),zF (.int t)] (.compF V0 (.mc V2 (Qa "suits") TBs [V0,V1]) 1 [2,1] (.one 0) V0)=zT (.lst ((cJ m t w ts).map (av m))):=by
  rw [Dh]
  show (jA call (.mc V2 (Qa "suits") TBs [V0,V1]) V0 [none,zF (.int t),zF (aE m w)] (.one 0) (ts.map (av m))).bind _=_
  rw [vM (av m) (av m) (λu=>bW m u t w) ts λu hu=>⟨_,rfl,lG rfl rfl (C u hu),λ_=>⟨false,rfl⟩⟩]
  rfl
 exact ao (dG (congrArg (Option.map (λx:R=>x.2)) hc) rfl) rfl
def cC (m:Nat) (t:Int) (w:Wt) (x:Str) (p:Tr):List Th:=if x=Qa "open"/\dY p=true then cJ m t w (aC p) else []
theorem lK (x:Str) (y:String):dq .eq (.str x) (tx y)=zF (.bl (decide (x=Qa y))):=by
 show some (false,D.bl (x == Qa y))=some (false,_)
 congr 3
end
end Dw.T
namespace Dw.T
open Dw PySem
abbrev Rw:=List Int×Str
abbrev Sk:=List Int×Tr
noncomputable def bh (p:List Int):D:=.tup (p.map .int)
def aI (r:Rw):D:=.tup [bh r.1,.str r.2]
def bH (m:Nat) (x:Sk):D:=.tup [bh x.1,aB m x.2]
def bJ (m:Nat) (x:Str×Tr):D:=.tup [.str x.1,aB m x.2]
noncomputable def dD:Str:=Qa "open"
def cB (q:List Int):Nat->List Tr->List Sk
 | _,[]=>[]
 | k,p::ps=>(q++[(k:Int)],p)::cB q (k+1) ps
def eR (w:Str) (q:List Int) (p:Tr) (st:List Sk):List Sk:=match p with
 | .leaf _=>st
 | .fork ps=>if w=dD then cB q 0 ps++st else st
def fu:List Rw->List Sk->Option (List (Str×Tr)×List Sk)
 | [],st=>some ([],st)
 | _::_,[]=>none
 | r::rs,x::st=>if x.1=r.1 then (fu rs (eR r.2 x.1 x.2 st)).map λz=>((r.2,x.2)::z.1,z.2) else none
def cov (x:Str×Tr):List Th:=match x.2 with
 | .leaf ts=>ts
 | .fork ps=>if x.1=dD then [] else aN ps
def aR (st:List Sk):List Tr:=st.map λx=>x.2
theorem nQ (q:List Int):∀(k:Nat) (ps:List Tr),aR (cB q k ps)=ps
 | _,[]=>rfl
 | k,p::ps=>by
  show p::aR (cB q (k+1) ps)=_
  rw [nQ q (k+1) ps]
theorem rp (a b:List Sk):aR (a++b)=aR a++aR b:=fh
theorem Bq (w:Str) (q:List Int) (p:Tr) (st:List Sk):cov (w,p)++aN (aR (eR w q p st))=aC p++aN (aR st):=by
 cases p with
 | leaf ts=>rfl
 | fork ps =>
  show (if w=dD then [] else aN ps)++aN (aR (if w=dD then cB q 0 ps++st else st))=aN ps++aN (aR st)
  by_cases h:w=dD
  ·rw [Ql h,Ql h,rp,nQ,iS,yj]
  ·rw [Qm h,Qm h]
theorem uW:∀(rs:List Rw) (st:List Sk) (z:List (Str×Tr)×List Sk),fu rs st=some z->z.1.flatMap cov++aN (aR z.2)=aN (aR st)
 | [],st,z,h=>by cases h;rfl
 | _::_,[],z,h=>by cases h
 | r::rs,x::st,z,h=>by
  rw [fu] at h
  by_cases e:x.1=r.1
  ·rw [Ql e] at h
   obtain⟨y,hy,rfl⟩:=zAo.mp h
   have ih:=uW rs _ y hy
   show (cov (r.2,x.2)++y.1.flatMap cov)++_=aC x.2++aN (aR st)
   rw [jG,ih,Bq]
  ·rw [Qm e] at h;cases h
theorem AQ (w:Str) (q:List Int) (p:Tr) (st:List Sk):bw (aR (eR w q p st))+1<=nd p+bw (aR st):=by
 have:=Af p
 cases p with
 | leaf ts=>show bw (aR st)+1<=1+_;omega
 | fork ps =>
  show bw (aR (if w=dD then cB q 0 ps++st else st))+1<=bw ps+1+bw (aR st)
  by_cases h:w=dD
  ·rw [Ql h,rp,nQ,nV];omega
  ·rw [Qm h];omega
theorem BF (q:List Int) {x:Sk}:∀(k:Nat) (ps:List Tr),x∈cB q k ps->x.1.length=q.length+1/\x.2∈ps
 | _,[],h=>by cases h
 | k,p::ps,h=>by
  rcases zCb.mp h with rfl|h
  ·exact⟨by simp,ir⟩
  ·have:=BF q (k+1) ps h
   exact⟨this.1,jH _ this.2⟩
theorem AO {w:Str}{x:Sk}{st:List Sk}{b:Nat}(h:∀y∈x::st,y.1.length+hg y.2<=b):∀y∈eR w x.1 x.2 st,y.1.length+hg y.2<=b:=by
 intro y hy
 have hs:∀y∈st,y.1.length+hg y.2<=b:=λy hy=>h y (jH _ hy)
 obtain⟨q,p⟩:=x
 cases p with
 | leaf ts=>exact hs y hy
 | fork ps =>
  change y∈(if w=dD then cB q 0 ps++st else st) at hy
  by_cases e:w=dD
  ·rw [Ql e] at hy
   rcases zBv.mp hy with hy|hy
   ·have h1:=BF q 0 ps hy
    have h2:=ju h1.2
    have h3:=h (q,.fork ps) ir
    have h4:hg (.fork ps)=bY ps+1:=by rw [hg]
    rw [h1.1]
    change q.length+hg (.fork ps)<=b at h3
    omega
   ·exact hs y hy
  ·rw [Qm e] at hy;exact hs y hy
theorem BH:∀a b:List Int,fv (a.map .int) (b.map .int)=decide (a=b)
 | [],[]=>rfl
 | [],_::_=>rfl
 | _::_,[]=>rfl
 | x::a,y::b=>by
  show ((x == y)&&fv (a.map .int) (b.map .int))=_
  rw [BH a b]
  by_cases h:x=y<;>by_cases g:a=b<;>simp [h,g]
theorem qNN (n:Nat) (a:List Int):bI (n+1) (bh a)=true:=by
 show hJ n (a.map .int)=true
 rw [vK,zBd]
 intro x _
 cases n<;>rfl
theorem Cs (a:List Int):br (bh a)=true:=by
 show bT (a.map .int)=true
 rw [kq,zBd]
 intro x _
 rfl
theorem qOt (a b:List Int):dq .ne (bh a) (bh b)=zF (.bl (!decide (a=b))):=by
 rw [rh,qNN 19 a,Cs a,Cs b]
 show zF (D.bl (!fv _ _))=_
 rw [BH]
theorem BD (l:List D) (d:D):aH (.lst (l++[d])) (.int (-1))=zF d:=by
 show (gI (l++[d]) (-1)).map _=_
 have:gI (l++[d]) (-1)=some d:=by
  simp only [gI,ixN,dF,mS]
  rw [Qm (by omega),Ql (by omega),bE]
  have:((-1:Int)+((l.length+1:Nat):Int)).toNat=l.length:=by omega
  rw [this]
  simp
 rw [this]
 rfl
theorem vc (q:List Int) (k:Nat) (h:q.length<=1000):d5 .add (bh q) (.tup [.int (k:Int)])=zF (bh (q++[(k:Int)])):=by
 cases q with
 | nil=>rfl
 | cons x a =>
  show (if (a.map D.int).length+1+1<=lim then zF (D.tup (D.int x::a.map .int++[.int (k:Int)])) else none)=_
  rw [cI] at h
  rw [Ql (bf (by rw [bA];omega))]
  simp [bh]
section
variable {call:Nat->List D->Option R}{Z:En}
theorem qNk {j i:Nat}{k:Int}{xs:List D}{d:D}{r:R}{rest:List S}{z:Option Ou}(ho:ax Z i=zT (.lst (xs++[d]))) (hx:aH d (.int k)=some r) (h:ae call ((Z.set i (zT (.lst xs))).set j (zF r.2)) rest=z):ae call Z (.popX j i k::rest)=z:=by
 have e:nA Z j i k=some (.nx ((Z.set i (zT (.lst xs))).set j (zF r.2))):=by
  have hx:mq d (.int k)=some r:=hx
  unfold nA
  rw [ho]
  dsimp only
  rw [List.getLast?_append,List.dropLast_concat]
  show (mq d (.int k)).bind _=_
  rw [hx]
  rfl
 rw [eL,Cp,e]
 exact h
theorem yG (m:Nat) (q:List Int) (hq:q.length<=1000):∀(k:Nat) (ps:List Tr),cL call (.tup [(.bin .add V2 (.tup [V0])),V1]) [none,none,zF (bh q)] (.two 0 1) (ee k (ps.map (aB m)))=some ((cB q k ps).map (bH m))
 | _,[]=>rfl
 | k,p::ps=>by
  have ih:=yG m q hq (k+1) ps
  have ha:=vc q k hq
  rw [eB,ee]
  show (aa call [zF (.int (k:Int)),zF (aB m p),zF (bh q)] (.tup [(.bin .add V2 (.tup [V0])),V1])).bind (λy=>(cL call (.tup [(.bin .add V2 (.tup [V0])),V1]) [none,none,zF (bh q)] (.two 0 1) (ee (k+1) (ps.map (aB m)))).bind λys=>some (y.2::ys))=_
  rw [ih,show aa call [zF (.int (k:Int)),zF (aB m p),zF (bh q)] (.tup [(.bin .add V2 (.tup [V0])),V1])=zF (bH m (q++[(k:Int)],p)) from by simp only [eQ,dB,eO,pk,ax,cm,bQ,bP,bE,cj,qr,jk,eh,cI,eC,Nat.reduceAdd,lj,↓reduceIte,bS,ha,jT];rfl]
  rfl
theorem nS (q:List Int):∀(k:Nat) (ps:List Tr),(cB q k ps).length=ps.length
 | _,[]=>rfl
 | k,p::ps=>by rw [cB,cI,cI,nS q (k+1) ps]
theorem qPP (m:Nat) (C22:∀p,call 22 [aB m p]=zF (.bl (dY p))) (C24:∀p,call 24 [aB m p]=zF (.tup (jl m p))) (d0 d1:Option R) (r:Rw) (x:Sk) (st:List Sk) (done:List (Str×Tr)) (o6 o7:Option R)
  (hn:done.length+bw (aR (x::st))<=5000) (hh:∀y∈x::st,y.1.length+hg y.2<=100) :
  (x.1≠r.1->ae call [d0,d1,zT (.lst (((x::st).map (bH m)).reverse)),zT (.lst (done.map (bJ m))),zF (bh r.1),zF (.str r.2),o6,o7] zbI=some (.rt (false,.non))) /\
  (x.1=r.1->∃o6' o7',ae call [d0,d1,zT (.lst (((x::st).map (bH m)).reverse)),zT (.lst (done.map (bJ m))),zF (bh r.1),zF (.str r.2),o6,o7] zbI=some (.nx [d0,d1,zT (.lst (((eR r.2 x.1 x.2 st).map (bH m)).reverse)),zT (.lst ((done++[(r.2,x.2)]).map (bJ m))),zF (bh r.1),zF (.str r.2),o6',o7'])):=by
 have hr:((x::st).map (bH m)).reverse=(st.map (bH m)).reverse++[bH m x]:=by simp
 rw [hr]
 have hl:=nU (aR (x::st))
 have hl2:(aR (x::st)).length=st.length+1:=by simp [aR]
 have hA:aa call [d0,d1,zT (.lst ((st.map (bH m)).reverse++[bH m x])),zT (.lst (done.map (bJ m))),zF (bh r.1),zF (.str r.2),o6,o7] (.cmp .eq (.bi .len [V2]) (kI 0))=zF (.bl false):=
  bX (qJ (dG rfl rfl)) rfl (by
   show zF (D.bl ((((((st.map (bH m)).reverse++[bH m x]).length:Nat):Int)) == 0))=_
   rw [beq_eq_false_iff_ne.mpr (by rw [dF,mS];omega)])
 have hB:aa call [d0,d1,zT (.lst ((st.map (bH m)).reverse++[bH m x])),zT (.lst (done.map (bJ m))),zF (bh r.1),zF (.str r.2),o6,o7] (.cmp .ne (.ix (.ix V2 (.neg (kI 1))) (kI 0)) V4)=zF (.bl (!decide (x.1=r.1))):=
  bX (um (jQ (um (jQ rfl rfl (BD _ _))) rfl rfl)) rfl (qOt _ _)
 have hO:=jq hA hB
 constructor
 ·intro h
  rw [Qj h] at hO
  exact aU hO (ao rfl rfl) rfl
 ·intro h
  rw [Qk h] at hO
  have e1:aa call [d0,d1,zT (.lst ((st.map (bH m)).reverse)),zT (.lst ((done++[(r.2,x.2)]).map (bJ m))),zF (bh r.1),zF (.str r.2),zF (aB m x.2),o7] (.and (.cmp .eq V5 (.k (tx "open"))) (.not (.call 22 [V6])))=zF (.bl (decide (r.2=dD)&&!dY x.2)):=
   iM (y:=false) (bX rfl rfl (lK r.2 "open")) (by have:=C22 x.2;simp [this])
  have pre:∀z,ae call [d0,d1,zT (.lst ((st.map (bH m)).reverse)),zT (.lst ((done++[(r.2,x.2)]).map (bJ m))),zF (bh r.1),zF (.str r.2),zF (aB m x.2),o7] (zbI.drop 3)=z->ae call [d0,d1,zT (.lst ((st.map (bH m)).reverse++[bH m x])),zT (.lst (done.map (bJ m))),zF (bh r.1),zF (.str r.2),o6,o7] zbI=z:=by
   intro z hz
   refine aq hO ?_
   refine qNk rfl rfl ?_
   refine km (false,bJ m (r.2,x.2)) rfl rfl (j9 (by rw [bA];omega)) ?_
   rw [<-hz,fh]
   rfl
  obtain⟨q,p⟩:=x
  cases p with
  | leaf ts =>
   refine⟨zF (aB m (.leaf ts)),o7,pre _ ?_⟩
   rw [show dY (Tr.leaf ts)=true from rfl,Bool.not_true,i6] at e1
   exact aq e1 rfl
  | fork ps =>
   by_cases ho:r.2=dD
   ·rw [show dY (Tr.fork ps)=false from rfl,Bool.not_false,yk,Qk ho] at e1
    have hq:q=r.1:=h
    have hql:q.length<=1000:=by have:=hh (q,.fork ps) ir;change q.length+_<=100 at this;omega
    have hps:bw (aR ((q,Tr.fork ps)::st))=bw ps+1+bw (aR st):=by show nd (.fork ps)+bw (aR st)=_;rw [nd]
    have hpl:=nU ps
    refine⟨zF (aB m (.fork ps)),zF (.lst ((cB q 0 ps).map (bH m))),pre _ ?_⟩
    refine fY e1 (Z':=[d0,d1,zT (.lst (((eR r.2 q (.fork ps) st).map (bH m)).reverse)),zT (.lst ((done++[(r.2,Tr.fork ps)]).map (bJ m))),zF (bh r.1),zF (.str r.2),zF (aB m (.fork ps)),zF (.lst ((cB q 0 ps).map (bH m)))]) ?_ rfl
    have hp:eR r.2 q (.fork ps) st=cB q 0 ps++st:=by show (if _ then _ else _)=_;rw [Ql ho]
    rw [hp,show ((cB q 0 ps++st).map (bH m)).reverse=(st.map (bH m)).reverse++((cB q 0 ps).map (bH m)).reverse from by rw [fh,List.reverse_append]]
    refine ay (true,.lst ((cB q 0 ps).map (bH m))) ?_ ?_
    ·have c:=C24 (.fork ps)
     rw [qI1,show aa call [d0,d1,zT (.lst ((st.map (bH m)).reverse)),zT (.lst ((done++[(r.2,Tr.fork ps)]).map (bJ m))),zF (bh r.1),zF (.str r.2),zF (aB m (.fork ps)),o7] (.call 24 [V6])=zF (.tup (ps.map (aB m))) from by simp [c];rfl,bE]
     show (cL call _ [none,none,zF (bh r.1)] (.two 0 1) (ee 0 (ps.map (aB m)))).bind _=_
     rw [<-hq,yG m q hql 0 ps]
     rfl
    ·refine AF ?_ rfl (bf (by rw [oZ,oZ,bA,bA,nS];omega)) rfl
     rw [qLl]
     show uh (.lst ((cB q 0 ps).map (bH m)))=_
     exact Ql (bf (by rw [bA,nS];omega))
   ·rw [Qj ho,Bool.false_and] at e1
    refine⟨zF (aB m (.fork ps)),o7,pre _ ?_⟩
    have hp:eR r.2 q (.fork ps) st=st:=by show (if _ then _ else _)=_;rw [Qm ho]
    rw [show eR r.2 (q,Tr.fork ps).1 (q,Tr.fork ps).2 st=st from hp]
    exact aq e1 rfl
theorem AG (m:Nat) (C22:∀p,call 22 [aB m p]=zF (.bl (dY p))) (C24:∀p,call 24 [aB m p]=zF (.tup (jl m p))) (d0 d1:Option R):∀(rs:List Rw) (st:List Sk) (done:List (Str×Tr)) (o4 o5 o6 o7:Option R),
  done.length+bw (aR st)<=5000->(∀y∈st,y.1.length+hg y.2<=100) ->
  (fu rs st=none->bC call zbI (.two 4 5) (rs.map aI) [d0,d1,zT (.lst ((st.map (bH m)).reverse)),zT (.lst (done.map (bJ m))),o4,o5,o6,o7]=some (.rt (false,.non))) /\
  (∀z,fu rs st=some z->∃o4' o5' o6' o7',bC call zbI (.two 4 5) (rs.map aI) [d0,d1,zT (.lst ((st.map (bH m)).reverse)),zT (.lst (done.map (bJ m))),o4,o5,o6,o7]=some (.nx [d0,d1,zT (.lst ((z.2.map (bH m)).reverse)),zT (.lst ((done++z.1).map (bJ m))),o4',o5',o6',o7']))
 | [],st,done,o4,o5,o6,o7,_,_=>⟨λh=>(by cases h),λz h=>⟨o4,o5,o6,o7,(by cases h;rw [eV];rfl)⟩⟩
 | r::rs,[],done,o4,o5,o6,o7,_,_=>⟨λ_=>by
   rw [eB,kz]
   show ((ae call [d0,d1,zT (.lst []),zT (.lst (done.map (bJ m))),zF (bh r.1),zF (.str r.2),o6,o7] zbI).bind _)=_
   rw [show ae call [d0,d1,zT (.lst []),zT (.lst (done.map (bJ m))),zF (bh r.1),zF (.str r.2),o6,o7] zbI=some (.rt (false,.non)) from aU rfl (ao rfl rfl) rfl]
   rfl,λz h=>by cases h⟩
 | r::rs,x::st,done,o4,o5,o6,o7,hn,hh=>by
  obtain⟨b1,b2⟩:=qPP m C22 C24 d0 d1 r x st done o6 o7 hn hh
  rw [eB,kz,fu]
  show (_->((ae call [d0,d1,zT (.lst (((x::st).map (bH m)).reverse)),zT (.lst (done.map (bJ m))),zF (bh r.1),zF (.str r.2),o6,o7] zbI).bind _)=_)/\(∀z,_->∃o4' o5' o6' o7',((ae call [d0,d1,zT (.lst (((x::st).map (bH m)).reverse)),zT (.lst (done.map (bJ m))),zF (bh r.1),zF (.str r.2),o6,o7] zbI).bind _)=_)
  by_cases e:x.1=r.1
  ·obtain⟨o6',o7',h⟩:=b2 e
   have h1:=AQ r.2 x.1 x.2 st
   have h2:bw (aR (x::st))=nd x.2+bw (aR st):=rfl
   obtain⟨i1,i2⟩:=AG m C22 C24 d0 d1 rs (eR r.2 x.1 x.2 st) (done++[(r.2,x.2)]) (zF (bh r.1)) (zF (.str r.2)) o6' o7' (by rw [dF,mS];omega) (AO hh)
   rw [h,Ql e]
   refine⟨λhz=>?_,λz hz=>?_⟩
   ·exact i1 (Option.map_eq_none_iff.mp hz)
   ·obtain⟨y,hy,rfl⟩:=zAo.mp hz
    obtain⟨p4,p5,p6,p7,hp⟩:=i2 y hy
    refine⟨p4,p5,p6,p7,?_⟩
    rw [jG] at hp
    exact hp
  ·rw [b1 e,Qm e]
   exact⟨λ_=>rfl,λz hz=>by cases hz⟩
def tR (m:Nat):Option (List (Str×Tr)×List Sk)->D
 | some (l,[])=>.lst (l.map (bJ m))
 | _=>.non
theorem qSP (m:Nat) (C22:∀p,call 22 [aB m p]=zF (.bl (dY p))) (C24:∀p,call 24 [aB m p]=zF (.tup (jl m p))) (top:Tr) (rs:List Rw) (hn:nd top<=4000) (hh:hg top<=90) :
  ae call [zF (aB m top),zF (.tup (rs.map aI)),none,none,none,none,none,none] f_pages_of_cut.body=some (.rt (false,tR m (fu rs [([],top)]))):=by
 obtain⟨i1,i2⟩:=AG m C22 C24 (zF (aB m top)) (zF (.tup (rs.map aI))) rs [([],top)] [] none none none none (by show 0+(nd top+0)<=_;omega) (λy hy=>by
  rw [zBu.mp hy]
  show 0+hg top<=100
  omega)
 refine ay _ rfl ?_
 refine ay _ rfl ?_
 cases hc:fu rs [([],top)] with
 | none=>exact qKi rfl rfl (i1 hc) rfl
 | some z =>
  obtain⟨p4,p5,p6,p7,hp⟩:=i2 z hc
  refine ki rfl rfl hp ?_
  rw [yj,AM]
  obtain⟨l,st⟩:=z
  cases st with
  | nil =>
   refine ao ?_ rfl
   have hA:aa call [zF (aB m top),zF (.tup (rs.map aI)),zT (.lst []),zF (.lst (l.map (bJ m))),p4,p5,p6,p7] (.cmp .eq (.bi .len [V2]) (kI 0))=zF (.bl true):=rfl
   show aa call [zF (aB m top),zF (.tup (rs.map aI)),zT (.lst []),zF (.lst (l.map (bJ m))),p4,p5,p6,p7] (.ifx (.cmp .eq (.bi .len [V2]) (kI 0)) V3 (.k .non))=_
   rw [AK,hA]
   rfl
  | cons x st =>
   refine ao ?_ rfl
   have hA:aa call [zF (aB m top),zF (.tup (rs.map aI)),zT (.lst (((x::st).map (bH m)).reverse)),zF (.lst (l.map (bJ m))),p4,p5,p6,p7] (.cmp .eq (.bi .len [V2]) (kI 0))=zF (.bl false):=
    bX (qJ (dG rfl rfl)) rfl (by
     show zF (D.bl (((((((x::st).map (bH m)).reverse).length:Nat):Int)) == 0))=_
     rw [beq_eq_false_iff_ne.mpr (by rw [oZ,bA,cI];omega)])
   show aa call [zF (aB m top),zF (.tup (rs.map aI)),zT (.lst (((x::st).map (bH m)).reverse)),zF (.lst (l.map (bJ m))),p4,p5,p6,p7] (.ifx (.cmp .eq (.bi .len [V2]) (kI 0)) V3 (.k .non))=_
   rw [AK,hA]
   rfl
end
end Dw.T
namespace Dw.T
open Dw PySem
def yy (m:Nat) (t:Int) (w:Wt):Option To->Bool
 | none=>true
 | some o=>decide (bV m o t w=.no)
abbrev Rx:=Int×Int
noncomputable def ar (r:Rx):D:=.tup [.int r.1,.int r.2]
theorem qMV (l:List Rx):lN (l.map ar)=some (l.map λr=>[r.1,r.2]):=Dv (λr:Rx=>[r.1,r.2]) l
def cP (l:List Rx):List Rx:=(dW (l.map λr=>[r.1,r.2])).map λk=>l.getD k (0,0)
theorem uI (l:List Rx) (h:l.length<64):lr (l.map ar)=zT (.lst ((cP l).map ar)):=by
 cases l with
 | nil =>
  have:fF []=[]:=by unfold fF;simp
  show (if ([]:List Int).length<64 then some (true,D.lst ((fF []).map .int)) else none)=_
  rw [this]
  rfl
 | cons r l =>
  have e:f7 ((r::l).map ar)=none:=rfl
  unfold lr
  rw [e]
  simp only
  rw [qMV,bE,Ql ⟨by rw [bA];exact h,λt ht=>by
   obtain⟨x,_,rfl⟩:=yaO.mp ht
   exact λz=>by cases z⟩]
  have:((dW ((r::l).map λr=>[r.1,r.2])).map λk=>((r::l).map ar).getD k .non)=(cP (r::l)).map ar:=by
   unfold cP
   rw [List.map_map]
   refine pA λk hk=>?_
   have hk:k<(r::l).length:=by
    have:=(oj _ _).mem_iff.mp hk
    simpa using this
   show ((r::l).map ar).getD k .non=ar ((r::l).getD k (0,0))
   rw [eF,eF,gk,cV hk]
   rfl
  rw [this]
theorem rG (l:List Rx):(cP l).length=l.length:=by
 unfold cP dW
 rw [fV,(oj _ _).length_eq,List.length_range,fV]
theorem uD:∀a b:List Rx,fv (a.map ar) (b.map ar)=decide (a=b)
 | [],[]=>rfl
 | [],_::_=>rfl
 | _::_,[]=>rfl
 | (x,x')::a,(y,y')::b=>by
  show (((x == y)&&((x' == y')&&true))&&fv (a.map ar) (b.map ar))=_
  rw [uD a b]
  by_cases h:x=y<;>by_cases g:x'=y'<;>by_cases k:a=b<;>simp [h,g,k]
theorem AW (n:Nat) (a:List Rx):hJ (n+1) (a.map ar)=true:=by
 rw [vK,zBd]
 intro x _
 show hJ n [.int _,.int _]=true
 cases n<;>rfl
theorem lU (a:List Rx):bT (a.map ar)=true:=by
 rw [kq,zBd]
 intro x _
 rfl
theorem qRE (a b:List Rx):dq .eq (.tup (a.map ar)) (.tup (b.map ar))=zF (.bl (decide (a=b))):=by
 rw [A2,show bI 20 (.tup (a.map ar))=true from AW 18 a,show br (.tup (a.map ar))=true from lU a,show br (.tup (b.map ar))=true from lU b]
 show zF (D.bl (fv _ _))=_
 rw [uD]
structure Aq where
 bx:Nat->P2
 mn:Nat
 rs:List Rx
noncomputable def kB (l:List Rx):Int:=(l.getLast?.getD (0,0)).1
def gK (m:Nat) (t:Int) (a:Aq) (o:To):Bool:=if a.mn=0 then true else decide (a.rs.length=a.mn)&&decide (kB a.rs<bN m (qA o.cov t) a.bx)
def D0 (m:Nat) (t:Int) (a:Aq):Option To->Bool
 | none=>false
 | some o=>gK m t a o
def gT (m:Nat) (t:Int) (w:Wt) (a:Aq) (x:Str) (o:Option To):Bool:=if x=Qa "shut" then yy m t w o else if x=Qa "far" then D0 m t a o else decide (x=dD)
def cN (m:Nat) (t:Int) (bx:Nat->P2) (u:Th):Rx:=(bN m (qA (aP u) t) bx,u.hd)
theorem qTA (l:List Rx) (h:l≠[]):∃r,l.getLast?=some r/\aH (.tup (l.map ar)) (.int (-1))=zF (ar r)/\aH (.lst (l.map ar)) (.int (-1))=zF (ar r):=by
 obtain⟨l',r,rfl⟩:∃l' r,l=l'++[r]:=⟨l.dropLast,l.getLast h,(List.dropLast_concat_getLast h).symm⟩
 have e:=BD (l'.map ar) (ar r)
 refine⟨r,by simp,?_,?_⟩
 ·rw [List.map_append];exact e
 ·rw [List.map_append];exact e
theorem qTS (v:Wd):dq .eq (ba v) (tx "none")=zF (.bl (decide (v=.no))):=by cases v<;>rfl
section
variable {call:Nat->List D->Option R}
theorem qPG (m:Nat) (t:Int) (w:Wt) (o:Option To) (C:∀o',o=some o'->call (gq w) [aE m w,aJ m o',.int t]=zF (ba (bV m o' t w))) :
  ae call [zF (aV m o),zF (aE m w),zF (.int t)] f_is_shut.body=some (.rt (false,.bl (yy m t w o))):=by
 cases o with
 | none=>exact ao rfl rfl
 | some o =>
  have hm:aa call [zF (aJ m o),zF (aE m w),zF (.int t)] (.mc V1 (Qa "verdict") TBv [V0,V2])=zF (ba (bV m o t w)):=lH rfl rfl (C o rfl)
  refine ao ?_ rfl
  have h1:aa call [zF (aJ m o),zF (aE m w),zF (.int t)] (.isC false V0 .non)=zF (.bl false):=rfl
  have:=jq h1 (bX (a:=.mc V1 (Qa "verdict") TBv [V0,V2]) (b:=.k (tx "none")) (congrArg (Option.map (λx:R=>x.2)) hm) rfl (qTS _))
  rw [Bool.false_or] at this
  exact this
theorem qPQ (m:Nat) (o:To) (bx:Nat->P2) (t:Int) (ca:call 42 [aJ m o,.int t]=zF (af m (qA o.cov t))) (bg:call 35 [af m (qA o.cov t),af m bx]=zF (.int (bN m (qA o.cov t) bx))):ae call [zF (aJ m o),zF (af m bx),zF (.int t)] f_cover_gap.body=some (.rt (false,.int (bN m (qA o.cov t) bx))):=
 ao (by simp [ca,bg]) rfl
theorem qSO (m:Nat) (t:Int) (a:Aq) (o:To) (C:call 48 [aJ m o,af m a.bx,.int t]=zF (.int (bN m (qA o.cov t) a.bx))) :
  ae call [zF (aJ m o),zF (af m a.bx),zF (.int (a.mn:Int)),zF (.int t),zF (.tup (a.rs.map ar))] f_is_far.body=some (.rt (false,.bl (gK m t a o))):=by
 unfold gK
 by_cases h0:a.mn=0
 ·rw [Ql h0]
  exact aU (x:=false) (by simp [h0,gj]) (ao rfl rfl) rfl
 ·rw [Qm h0]
  have h0':¬((a.mn:Int)=0):=by omega
  refine aq (x:=false) (by simp [h0',h0,gj]) ?_
  have e1:aa call [zF (aJ m o),zF (af m a.bx),zF (.int (a.mn:Int)),zF (.int t),zF (.tup (a.rs.map ar))] (.cmp .eq (.bi .len [V4]) V2)=zF (.bl (decide (a.rs.length=a.mn))):=by
   by_cases h:a.rs.length=a.mn
   ·have h':((a.rs.length:Int)=(a.mn:Int)):=by omega
    simp [h',h,gj]
   ·have h':¬((a.rs.length:Int)=(a.mn:Int)):=by omega
    simp [h',h,gj]
  by_cases h:a.rs.length=a.mn
  ·obtain⟨r,l1,l2,_⟩:=qTA a.rs (λz=>by rw [z] at h;exact h0 h.symm)
   have e2:aH (ar r) (.int 0)=zF (.int r.1):=rfl
   refine ao (iM (y:=false) e1 ?_) rfl
   unfold kB
   rw [l1]
   simp [C,l2,e2]
  ·rw [Qj h] at e1 ⊢
   exact ao (jt e1) rfl
theorem qPC (m:Nat) (t:Int) (w:Wt) (a:Aq) (x:Str) (o:Option To) (b1:Bool) (C34:call 37 [aV m o,aE m w,.int t]=zF (.bl b1)) (C35:∀o',o=some o'->call 50 [aJ m o',af m a.bx,.int (a.mn:Int),.int t,.tup (a.rs.map ar)]=zF (.bl (gK m t a o'))) :
  ae call [zF (.str x),zF (aV m o),zF (af m a.bx),zF (.int (a.mn:Int)),zF (.int t),zF (aE m w),zF (.tup (a.rs.map ar))] f_near_word_stands.body=some (.rt (false,.bl (if x=Qa "shut" then b1 else if x=Qa "far" then D0 m t a o else decide (x=dD)))):=by
 have e1:aa call [zF (.str x),zF (aV m o),zF (af m a.bx),zF (.int (a.mn:Int)),zF (.int t),zF (aE m w),zF (.tup (a.rs.map ar))] (.cmp .eq V0 (.k (tx "shut")))=zF (.bl (decide (x=Qa "shut"))):=bX rfl rfl (lK x "shut")
 have e2:aa call [zF (.str x),zF (aV m o),zF (af m a.bx),zF (.int (a.mn:Int)),zF (.int t),zF (aE m w),zF (.tup (a.rs.map ar))] (.cmp .eq V0 (.k (tx "far")))=zF (.bl (decide (x=Qa "far"))):=bX rfl rfl (lK x "far")
 by_cases h1:x=Qa "shut"
 ·rw [Ql h1]
  rw [Qk h1] at e1
  exact aU e1 (ao C34 rfl) rfl
 ·rw [Qm h1]
  rw [Qj h1] at e1
  refine aq e1 ?_
  by_cases h2:x=Qa "far"
  ·rw [Ql h2]
   rw [Qk h2] at e2
   refine aU e2 (ao ?_ rfl) rfl
   cases o with
   | none=>exact jt (x:=false) rfl
   | some o =>
    have:=C35 o rfl
    exact hV (x:=false) rfl this
  ·rw [Qm h2]
   rw [Qj h2] at e2
   refine aq e2 ?_
   exact ao (bX rfl rfl (lK x "open")) rfl
theorem qGM (m:Nat) (t:Int) (w:Wt) (bx:Nat->P2) (p:Tr) (hp:dY p=true) (C24:call 24 [aB m p]=zF (.tup (jl m p))) (C30:call 29 [.tup ((aC p).map (av m)),aE m w,.int t]=zF (.tup ((cJ m t w (aC p)).map (av m))))
  (C8:∀u,call 8 [av m u]=zF (.int u.hd)) (C12:∀u∈aC p,call 12 [av m u,.int t]=zF (af m (qA (aP u) t))) (C34:∀u∈aC p,call 35 [af m (qA (aP u) t),af m bx]=zF (.int (bN m (qA (aP u) t) bx))) :
  ae call [zF (aB m p),zF (af m bx),zF (.int t),zF (aE m w),none] f_rows_of_leaf.body=some (.rt (true,.lst ((cJ m t w (aC p)).map λu=>ar (cN m t bx u)))):=by
 have hq:jl m p=(aC p).map (av m):=by
  cases p with
  | leaf ts=>rfl
  | fork ps=>exact Qn hp oW
 rw [hq] at C24
 have l2:2<=lim:=bf (by decide)
 refine ay (false,.tup ((cJ m t w (aC p)).map (av m))) (by simp [C24,C30]) ?_
 refine ao (hU rfl rfl rfl (eN call _ (av m) (λu=>ar (cN m t bx u)) (cJ m t w (aC p)) λu hu=>?_)) rfl
 have hu:=(yaQ.mp hu).1
 have c8:=C8 u
 have oH:=C12 u hu
 have rW:=C34 u hu
 exact⟨_,false,rfl,by simp [c8,oH,rW,l2];rfl⟩
theorem qGL (m:Nat) (t:Int) (w:Wt) (bx:Nat->P2) (l:List (Str×Tr)) (hl:(l.flatMap λx=>cC m t w x.1 x.2).length<64) (C22:∀p,call 22 [aB m p]=zF (.bl (dY p)))
  (C43:∀x∈l,dY x.2=true->call 49 [aB m x.2,af m bx,.int t,aE m w]=zT (.lst ((cJ m t w (aC x.2)).map λu=>ar (cN m t bx u)))) :
  ae call [zF (.lst (l.map (bJ m))),zF (af m bx),zF (.int t),zF (aE m w),none,none,none] f_rows_of_open_leaves.body=some (.rt (true,.lst ((l.flatMap λx=>cC m t w x.1 x.2).map λu=>ar (cN m t bx u)))):=by
 obtain⟨Z',h,o4,o5,rfl⟩:=jC (call:=call) (tg:=.two 5 6) (body:=xX)
  (λk Z=>∃(o4 o5:Option R),Z=[zF (.lst (l.map (bJ m))),zF (af m bx),zF (.int t),zF (aE m w),zT (.lst (((l.take k).flatMap λx=>cC m t w x.1 x.2).map λu=>ar (cN m t bx u))),o4,o5]) (l.map (bJ m)) 0
  [zF (.lst (l.map (bJ m))),zF (af m bx),zF (.int t),zF (aE m w),zT (.lst []),none,none] ⟨none,none,rfl⟩ (by
   rintro k d Z hk ⟨o4,o5,rfl⟩
   rw [iu] at hk
   obtain⟨x,hx,rfl⟩:=zAo.mp hk
   have hc:=C43 x (mU hx)
   have oG:=C22 x.2
   have h1:(l.take (0+k+1)).flatMap (λx=>cC m t w x.1 x.2)=(l.take (0+k)).flatMap (λx=>cC m t w x.1 x.2)++cC m t w x.1 x.2:=by rw [iq,CJ hx,List.flatMap_append];simp
   have h2:((l.take (0+k+1)).flatMap (λx=>cC m t w x.1 x.2)).length<=(l.flatMap λx=>cC m t w x.1 x.2).length:=by
    rw [<-pd (0+k+1) l,List.flatMap_append,dF,pd];omega
   rw [h1,dF] at h2
   have e2:aa call [zF (.lst (l.map (bJ m))),zF (af m bx),zF (.int t),zF (aE m w),zT (.lst (((l.take (0+k)).flatMap λx=>cC m t w x.1 x.2).map λu=>ar (cN m t bx u))),zF (.str x.1),zF (aB m x.2)] (.and (.cmp .eq V5 (.k (tx "open"))) (.call 22 [V6]))=zF (.bl (decide (x.1=Qa "open")&&dY x.2)):=iM (y:=false) (bX rfl rfl (lK x.1 "open")) oG
   refine⟨[zF (.lst (l.map (bJ m))),zF (af m bx),zF (.int t),zF (aE m w),zT (.lst (((l.take (0+k)).flatMap λx=>cC m t w x.1 x.2).map λu=>ar (cN m t bx u))),zF (.str x.1),zF (aB m x.2)],_,rfl,?_,zF (.str x.1),zF (aB m x.2),rfl⟩
   rw [h1,fh]
   have h5:cC m t w x.1 x.2=if x.1=Qa "open"/\dY x.2=true then cJ m t w (aC x.2) else []:=rfl
   rw [h5] at h2 ⊢
   by_cases h3:x.1=Qa "open"/\dY x.2=true
   ·rw [Ql h3] at h2 ⊢
    rw [Qk h3.1,h3.2] at e2
    refine fY (x:=false) e2 (AF (hc h3.2) rfl (bf (by rw [bA,bA];omega)) rfl) rfl
   ·rw [Qm h3]
    have:(decide (x.1=Qa "open")&&dY x.2)=false:=by
     cases h4:dY x.2 with
     | false=>rw [i6]
     | true=>rw [yk];exact Qj λz=>h3 ⟨z,h4⟩
    rw [this] at e2
    rw [List.map_nil,eV]
    exact aq e2 rfl)
 rw [bA,iq,gO (fT _)] at h
 refine ay _ rfl ?_
 refine ki rfl rfl h ?_
 exact ao rfl rfl
theorem uV:∀(rs:List Rw) (st:List Sk) (z:List (Str×Tr)×List Sk),fu rs st=some z->∀x∈z.1,(∀u∈aC x.2,u∈aN (aR st))/\hg x.2<=bY (aR st)/\(aC x.2).length<=(aN (aR st)).length
 | [],st,z,h,x,hx=>by cases h;cases hx
 | _::_,[],z,h,_,_=>by cases h
 | r::rs,y::st,z,h,x,hx=>by
  rw [fu] at h
  by_cases e:y.1=r.1
  ·rw [Ql e] at h
   obtain⟨v,hv,rfl⟩:=zAo.mp h
   have h0:aN (aR (y::st))=aC y.2++aN (aR st):=rfl
   have g0:bY (aR (y::st))=max (hg y.2) (bY (aR st)):=rfl
   have l0:(aN (aR (y::st))).length=(aC y.2).length+(aN (aR st)).length:=by rw [h0,dF]
   rcases zCb.mp hx with rfl|hx
   ·exact⟨λu hu=>by rw [h0];exact sx _ hu,by show hg y.2<=_;omega,by show (aC y.2).length<=_;omega⟩
   ·obtain⟨i1,i2,i3⟩:=uV rs _ v hv x hx
    obtain⟨q,p⟩:=y
    cases p with
    | leaf ts=>exact⟨λu hu=>by rw [h0];exact pj _ (i1 u hu),by have:hg x.2<=bY (aR st):=i2;omega,by have:(aC x.2).length<=(aN (aR st)).length:=i3;omega⟩
    | fork ps =>
     have hp:eR r.2 q (.fork ps) st=if r.2=dD then cB q 0 ps++st else st:=rfl
     rw [hp] at i1 i2 i3
     by_cases ho:r.2=dD
     ·rw [Ql ho,rp,nQ] at i1 i2 i3
      rw [iS] at i1 i3
      have hgap:bY (ps++aR st)<=max (bY ps+1) (bY (aR st)):=qO λp hp=>by
       rcases zBv.mp hp with hp|hp
       ·have:=ju hp;omega
       ·have:=ju hp;omega
      have g1:hg (Tr.fork ps)=bY ps+1:=by rw [hg]
      change bY (aR _)=max (hg (.fork ps)) _ at g0
      exact⟨λu hu=>by rw [h0];exact i1 u hu,by omega,by rw [h0];exact i3⟩
     ·rw [Qm ho] at i1 i2 i3
      exact⟨λu hu=>by rw [h0];exact pj _ (i1 u hu),by omega,by omega⟩
  ·rw [Qm e] at h;cases h
end
end Dw.T
namespace Dw.T
open Dw PySem
theorem j1 (m:Nat) (w:Wt) (ds:List D):aQ false (aE m w::ds)=zF (aE m w)::aQ false ds:=by
 obtain⟨kn,os,e,_⟩:=uG m w
 rw [e]
 rfl
theorem zb (m:Nat) (o:Option To) (ds:List D):aQ false (aV m o::ds)=zF (aV m o)::aQ false ds:=by cases o<;>rfl
theorem Cw (n m:Nat) (p:Tr):aG tab (n+1) 22 [aB m p]=zF (.bl (dY p)):=au (n:=n) rfl rfl (by show aQ false (aB m p::_)++_=_;rw [j0];rfl) (qKd m p)
theorem qO4 (n m:Nat) (p:Tr):aG tab (n+1) 23 [aB m p]=zF (aV m (tl p)):=au (n:=n) rfl rfl (by show aQ false (aB m p::_)++_=_;rw [j0];rfl) (BL m p)
theorem Cz (n m:Nat) (p:Tr):aG tab (n+1) 24 [aB m p]=zF (.tup (jl m p)):=au (n:=n) rfl rfl (by show aQ false (aB m p::_)++_=_;rw [j0];rfl) (qKb m p)
theorem A0 (m:Nat):∀(k:Nat) (p:Tr),hg p<=k->(aC p).length<=1000->∀n,∃b,aG tab (n+k+1) 63 [aw m p]=some (b,.lst ((aC p).map (av m)))
 | 0,p,h,hl,n=>by
  obtain⟨b,e⟩:=BM m p hl λq hq=>Qn hq (by omega)
  exact⟨b,au (n:=n) rfl rfl (by show aQ false (aw m p::_)++_=_;rw [ny];rfl) e⟩
 | k+1,p,h,hl,n=>by
  obtain⟨b,e⟩:=BM m p hl λq hq hl=>A0 m k q (by omega) hl n
  exact⟨b,au (n:=n+k+1) rfl rfl (by show aQ false (aw m p::_)++_=_;rw [ny];rfl) e⟩
section
variable (m:Nat) (hm:0<m) (t:Int) (ht:0<=t/\t<=10^15) (w:Wt) (hw:cT w) (hd:dp w<=8)
include hm ht hw hd
theorem qLu (n:Nat) (u:Th) (hu:cg u):aG tab (n+13) (gS w) [aE m w,av m u,.int t]=zF (.bl (bW m u t w)):=by
 have:=lQ m hm u hu t ht w hw (n+(8 - dp w))
 rwa [show n+(8 - dp w)+dp w+5=n+13 from by omega] at this
theorem qO3 (n:Nat) (o:To) (ok:ToOk o):aG tab (n+13) (gq w) [aE m w,aJ m o,.int t]=zF (ba (bV m o t w)):=by
 have:=lV m hm o ok t ht w hw (n+(8 - dp w))
 rwa [show n+(8 - dp w)+dp w+5=n+13 from by omega] at this
theorem qJx (n:Nat) (ts:List Th) (h:∀u∈ts,cg u):aG tab (n+14) 29 [.tup (ts.map (av m)),aE m w,.int t]=zF (.tup ((cJ m t w ts).map (av m))):=
 au (n:=n+13) rfl rfl (by show zF (D.tup (ts.map (av m)))::aQ false (aE m w::_)++_=_;rw [j1];rfl) (qHy m t w ts λu hu=>qLu m hm t ht w hw hd n u (h u hu))
theorem ze (n:Nat) (g f:Nat->P2) (h1:∀j,cH (g j)) (h2:∀j,cH (f j)):aG tab (n+2) 35 [af m g,af m f]=zF (.int (bN m g f)):=
 au rfl rfl rfl (t6 m g f h1 h2 λp q=>au rfl rfl rfl (t7 p q))
theorem qTZ (n:Nat) (a:Aq) (hb:∀j,cH (a.bx j)) (o:To) (ok:ToOk o):aG tab (n+6) 50 [aJ m o,af m a.bx,.int (a.mn:Int),.int t,.tup (a.rs.map ar)]=zF (.bl (gK m t a o)):=by
 have ca:=(yJ n m hm o t ht).ca
 have bg:=ze m hm t ht w hw hd (n+2) (qA o.cov t) a.bx (λj=>jY ok.cov ht j) hb
 exact au (n:=n+5) rfl rfl rfl (qSO m t a o (au (n:=n+4) rfl rfl rfl (qPQ m o a.bx t ca bg)))
theorem qRL (n:Nat) (a:Aq) (hb:∀j,cH (a.bx j)) (x:Str) (p:Tr) (h:∀u∈aC p,cg u):aG tab (n+15) 51 [.str x,aV m (tl p),af m a.bx,.int (a.mn:Int),.int t,aE m w,.tup (a.rs.map ar)]=zF (.bl (gT m t w a x (tl p))):=by
 have G:=ug p h
 have V:∀o',tl p=some o'->aG tab (n+13) (gq w) [aE m w,aJ m o',.int t]=zF (ba (bV m o' t w)):=λo' e=>by
  rw [e] at G
  exact qO3 m hm t ht w hw hd n o' G.2.1
 have U:∀o',tl p=some o'->aG tab (n+14) 50 [aJ m o',af m a.bx,.int (a.mn:Int),.int t,.tup (a.rs.map ar)]=zF (.bl (gK m t a o')):=λo' e=>by
  rw [e] at G
  exact qTZ m hm t ht w hw hd (n+8) a hb o' G.2.1
 have ag3:aQ false [aV m (tl p),aE m w,.int t]++List.replicate 0 (none:Option R)=[zF (aV m (tl p)),zF (aE m w),zF (.int t)]:=by rw [zb,j1];rfl
 exact au (n:=n+14) rfl rfl (by show zF (D.str x)::aQ false (aV m (tl p)::_)++_=_;rw [zb];show _::_::zF (af m a.bx)::zF (D.int (a.mn:Int))::zF (.int t)::aQ false (aE m w::_)++_=_;rw [j1];rfl) (qPC m t w a x (tl p) _ (au (n:=n+13) rfl rfl ag3 (qPG m t w (tl p) V)) U)
theorem qHc (n:Nat) (bx:Nat->P2) (hb:∀j,cH (bx j)) (p:Tr) (hp:dY p=true) (h:∀u∈aC p,cg u):aG tab (n+15) 49 [aB m p,af m bx,.int t,aE m w]=zT (.lst ((cJ m t w (aC p)).map λu=>ar (cN m t bx u))):=
 au (n:=n+14) rfl rfl (by show aQ false (aB m p::_)++_=_;rw [j0];show _::zF (af m bx)::zF (.int t)::aQ false (aE m w::_)++_=_;rw [j1];rfl)
  (qGM m t w bx p hp (Cz _ m p) (qJx m hm t ht w hw hd n (aC p) h) (λu=>au (n:=n+13) rfl rfl rfl (ao rfl rfl)) (λu _=>(yL (n+10) m hm u t ht).tb) λu hu=>ze m hm t ht w hw hd (n+12) _ bx (λj=>jY (iO (h u hu)) ht j) hb)
theorem qHb (n:Nat) (bx:Nat->P2) (hb:∀j,cH (bx j)) (l:List (Str×Tr)) (h:∀x∈l,∀u∈aC x.2,cg u) (hl:(l.flatMap λx=>cC m t w x.1 x.2).length<64):aG tab (n+16) 52 [.lst (l.map (bJ m)),af m bx,.int t,aE m w]=zT (.lst ((l.flatMap λx=>cC m t w x.1 x.2).map λu=>ar (cN m t bx u))):=
 au (n:=n+15) rfl rfl (by show zF (D.lst (l.map (bJ m)))::zF (af m bx)::zF (.int t)::aQ false (aE m w::_)++_=_;rw [j1];rfl) (qGL m t w bx l hl (Cw _ m) λx hx hp=>qHc m hm t ht w hw hd n bx hb x.2 hp (h x hx))
end
theorem qN (xs:List D) (k:Nat):dU xs none (some (k:Int))=xs.take k:=by
 simp only [dU,gw,cutAt]
 rw [Qm (by omega),jL,List.drop_zero,Nat.sub_zero]
 by_cases h:k<=xs.length
 ·rw [oX h]
 ·rw [mQ (by omega),gO (fT _),gO (by omega)]
def wO (m:Nat):Option Wt->D
 | none=>.non
 | some w=>aE m w
noncomputable def wG:Option Wt->Wt
 | none=>.atm .any
 | some w=>w
def nG (m:Nat) (t:Int) (w:Wt) (a:Aq) (l:List (Str×Tr)):List Rx:=(cP ((l.flatMap λx=>cC m t w x.1 x.2).map (cN m t a.bx))).take a.mn
def mj (m:Nat) (t:Int) (w:Wt) (a:Aq) (top:Tr) (rs:List Rw):Bool:=match fu rs [([],top)] with
 | some (l,[])=>l.all (λx=>gT m t w a x.1 (tl x.2))&&decide (a.rs=nG m t w a l)
 | _=>false
theorem A3 (m:Nat) (t:Int) (w:Wt):∀l:List (Str×Tr),(l.flatMap λx=>cC m t w x.1 x.2).length<=(l.flatMap cov).length
 | []=>aK _
 | x::l=>by
  rw [mX,mX,dF,dF]
  have:=A3 m t w l
  have h:(cC m t w x.1 x.2).length<=(cov x).length:=by
   obtain⟨y,p⟩:=x
   unfold cC
   split
   ·rename_i h
    cases p with
    | leaf ts=>exact List.length_filter_le _ _
    | fork ps=>exact Qn h.2 oW
   ·exact fq _
  omega
theorem qPK {call:Nat->List D->Option R}(m:Nat) (t:Int) (wo:Option Wt) (a:Aq) (top:Tr) (rs:List Rw) (hs:(aC top).length<64) (C41:call 47 [wO m wo]=zF (aE m (wG wo))) (C33:call 36 [aB m top,.tup (rs.map aI)]=zF (tR m (fu rs [([],top)]))) (C23:∀p,call 23 [aB m p]=zF (aV m (tl p)))
  (C36:∀(x:Str) (p:Tr),(∀u∈aC p,u∈aC top)->call 51 [.str x,aV m (tl p),af m a.bx,.int (a.mn:Int),.int t,aE m (wG wo),.tup (a.rs.map ar)]=zF (.bl (gT m t (wG wo) a x (tl p))))
  (C32:∀l:List (Str×Tr),(∀x∈l,∀u∈aC x.2,u∈aC top)->(l.flatMap λx=>cC m t (wG wo) x.1 x.2).length<64->call 52 [.lst (l.map (bJ m)),af m a.bx,.int t,aE m (wG wo)]=zT (.lst ((l.flatMap λx=>cC m t (wG wo) x.1 x.2).map λu=>ar (cN m t a.bx u)))) :
  ae call [zF (aB m top),zF (af m a.bx),zF (.int (a.mn:Int)),zF (.int t),zF (wO m wo),zF (.tup (a.rs.map ar)),zF (.tup (rs.map aI)),none,none] f_near_stands.body=some (.rt (false,.bl (mj m t (wG wo) a top rs))):=by
 refine ay _ C41 ?_
 have no:tR m (fu rs [([],top)])=.non->ae call [zF (aB m top),zF (af m a.bx),zF (.int (a.mn:Int)),zF (.int t),zF (wO m wo),zF (.tup (a.rs.map ar)),zF (.tup (rs.map aI)),zF (aE m (wG wo)),none] (f_near_stands.body.drop 1)=some (.rt (false,.bl false)):=by
  intro h
  rw [h] at C33
  refine ay _ C33 ?_
  exact aU rfl (ao rfl rfl) rfl
 generalize wG wo=w at *
 unfold mj
 cases hc:fu rs [([],top)] with
 | none=>exact no (by rw [hc];rfl)
 | some z =>
  obtain⟨l,st⟩:=z
  cases st with
  | cons x st=>exact no (by rw [hc];rfl)
  | nil =>
   have hu:=uW _ _ _ hc
   have hsub:=uV _ _ _ hc
   change l.flatMap cov++[]=aC top++[] at hu
   rw [eV,eV] at hu
   have hT:aN (aR [([],top)])=aC top:=by show aC top++[]=_;rw [eV]
   rw [hT] at hsub
   rw [hc] at C33
   change call 36 _=zF (.lst (l.map (bJ m))) at C33
   have h1:=eN call (e:=(.call 51 [V0,(.call 23 [V1]),V4,V5,V3,V2,V6])) (tg:=.two 0 1) [none,none,zF (aE m w),zF (.int t),zF (af m a.bx),zF (.int (a.mn:Int)),zF (.tup (a.rs.map ar))] (bJ m) (λx=>.bl (gT m t w a x.1 (tl x.2))) l (λx hx=>by
    have he:=C36 x.1 x.2 (hsub x hx).1
    have h23:=C23 x.2
    exact⟨[zF (.str x.1),zF (aB m x.2),zF (aE m w),zF (.int t),zF (af m a.bx),zF (.int (a.mn:Int)),zF (.tup (a.rs.map ar))],false,rfl,by simp [h23,he]⟩)
   have hall:aa call [zF (aB m top),zF (af m a.bx),zF (.int (a.mn:Int)),zF (.int t),zF (wO m wo),zF (.tup (a.rs.map ar)),zF (.tup (rs.map aI)),zF (aE m w),zF (.lst (l.map (bJ m)))] (.not (.bi .all [(.compS (.call 51 [V0,(.call 23 [V1]),V4,V5,V3,V2,V6]) 2 [7,3,1,2,5] (.two 0 1) V8)]))=zF (.bl (!(l.all λx=>gT m t w a x.1 (tl x.2)))):=by
    rw [AL,dG (r:=zF (.bl (l.all λx=>gT m t w a x.1 (tl x.2)))) (iR (hU rfl rfl rfl h1)) (by
     show (g9 _).map _=_
     rw [rB]
     show zF (D.bl ((l.map _).all id))=_
     rw [List.all_map]
     rfl)]
   show _=some (Ou.rt (false,.bl ((l.all λx=>gT m t w a x.1 (tl x.2))&&decide (a.rs=nG m t w a l))))
   cases hb:l.all λx=>gT m t w a x.1 (tl x.2) with
   | false =>
    rw [hb] at hall
    refine ay _ C33 ?_
    refine aq rfl ?_
    exact aU hall (ao rfl rfl) rfl
   | true =>
    rw [hb] at hall
    have hlen:(l.flatMap λx=>cC m t w x.1 x.2).length<64:=by
     have:=A3 m t w l
     rw [hu] at this
     omega
    have h32:=C32 l (λx hx=>(hsub x hx).1) hlen
    refine ay _ C33 ?_
    refine aq rfl ?_
    refine aq hall ?_
    rw [Bool.true_and]
    have hs2:=uI ((l.flatMap λx=>cC m t w x.1 x.2).map (cN m t a.bx)) (by rw [bA];exact hlen)
    rw [List.map_map] at hs2
    refine ao (bX rfl ?_ (qRE a.rs (nG m t w a l))) rfl
    unfold nG
    rw [List.map_take,<-qN]
    have hs3:bZ .sorted [.lst ((l.flatMap λx=>cC m t w x.1 x.2).map λu=>ar (cN m t a.bx u))]=zT (.lst ((cP ((l.flatMap λx=>cC m t w x.1 x.2).map (cN m t a.bx))).map ar)):=hs2
    simp [h32,hs3]
theorem qRN (m:Nat) (hm:0<m) (t:Int) (ht:0<=t/\t<=10^15) (wo:Option Wt) (hw:cT (wG wo)) (hd:dp (wG wo)<=8) (a:Aq) (hb:∀j,cH (a.bx j)) (n:Nat) (top:Tr) (h:∀u∈aC top,cg u) (hs:(aC top).length<64) (hn:nd top<=4000) (hh:hg top<=8) (rs:List Rw) :
  aG tab (n+17) 53 [aB m top,af m a.bx,.int (a.mn:Int),.int t,wO m wo,.tup (a.rs.map ar),.tup (rs.map aI)]=zF (.bl (mj m t (wG wo) a top rs)):=
 au (n:=n+16) rfl rfl (by
  show aQ false (aB m top::_)++_=_
  rw [j0]
  cases wo with
  | none=>rfl
  | some w=>show _::zF (af m a.bx)::zF (D.int (a.mn:Int))::zF (.int t)::aQ false (aE m w::_)++_=_;rw [j1];rfl)
  (qPK m t wo a top rs hs (by
   cases wo with
   | none=>exact au (n:=n+15) rfl rfl rfl (ao rfl rfl)
   | some w=>exact au (n:=n+15) rfl rfl (by show aQ false (aE m w::_)++_=_;rw [j1]) (ao (by cases w<;>rfl) rfl))
  (au (n:=n+15) rfl rfl (by show aQ false (aB m top::_)++_=_;rw [j0];rfl) (qSP m (Cw _ m) (Cz _ m) top rs hn (by omega)))
  (qO4 _ m) (λx p hp=>qRL m hm t ht (wG wo) hw hd (n+1) a hb x p λu hu=>h u (hp u hu))
  (λl hl h64=>qHb m hm t ht (wG wo) hw hd n a.bx hb l (λx hx u hu=>h u (hl x hx u hu)) h64))
end Dw.T
namespace Dw.T
open Dw PySem
theorem zK:∀a b:List Int,dI a b=true->dI b a=false
 | [],[],_=>rfl
 | [],_::_,_=>rfl
 | _::_,[],h=>by cases h
 | x::xs,y::ys,h=>by
  simp only [dI] at h ⊢
  by_cases e:x=y
  ·rw [Ql e] at h;rw [Ql e.symm];exact zK xs ys h
  ·rw [Qm e] at h;rw [Qm (Ne.symm e)]
   exact Qj (by have:=Qp h;omega)
theorem zL:∀a b c:List Int,dI a b=false->dI b c=false->dI a c=false
 | [],[],_,_,h=>h
 | [],_::_,_,h,_=>by cases h
 | _::_,[],[],_,_=>rfl
 | _::_,[],_::_,_,h=>by cases h
 | _::_,_::_,[],_,_=>rfl
 | x::xs,y::ys,z::zs,h,k=>by
  simp only [dI] at h k ⊢
  by_cases e:x=y
  ·rw [Ql e] at h
   subst e
   by_cases f:x=z
   ·rw [Ql f] at k ⊢;exact zL xs ys zs h k
   ·rw [Qm f] at k ⊢;exact k
  ·rw [Qm e] at h
   have h:=of_decide_eq_false h
   by_cases f:y=z
   ·subst f;rw [Qm e];exact Qj h
   ·rw [Qm f] at k
    have k:=of_decide_eq_false k
    rw [Qm (by omega)];exact Qj (by omega)
def ja (r s:Rx):Bool:=dI [r.1,r.2] [s.1,s.2]
theorem rm (r s:Rx):ja r s=true↔r.1<s.1∨r.1=s.1/\r.2<s.2:=by
 unfold ja
 simp only [dI]
 by_cases e:r.1=s.1
 ·rw [Ql e]
  by_cases f:r.2=s.2
  ·rw [Ql f];simp;omega
  ·rw [Qm f];simp;omega
 ·rw [Qm e];simp;omega
theorem qKF {r s:Rx}(h:ja r s=false) (k:ja s r=false):r=s:=by
 have h':¬(r.1<s.1∨r.1=s.1/\r.2<s.2):=λz=>by rw [(rm r s).mpr z] at h;cases h
 have k':¬(s.1<r.1∨s.1=r.1/\s.2<r.2):=λz=>by rw [(rm s r).mpr z] at k;cases k
 exact Prod.ext (by omega) (by omega)
def oM (l:List Rx):Prop:=l.Pairwise λr s=>ja s r=false
theorem me (l:List Rx):(cP l).Perm l:=by
 unfold cP dW
 have:=(oj (λi j=>dI ((l.map λr=>[r.1,r.2]).getD i []) ((l.map λr=>[r.1,r.2]).getD j [])) (l.map λr=>[r.1,r.2]).length).map λk=>l.getD k ((0,0):Rx)
 refine this.trans (.of_eq ?_)
 rw [fV]
 refine List.ext_getElem (by simp) λi h1 h2=>?_
 simp [eF,cV h2]
theorem lM (l:List Rx):oM (cP l):=by
 unfold cP dW lu oM
 rw [fV]
 split
 ·rename_i h
  match l,h with
  | [],_=>simp
  | [a],_=>simp [pF]
  | _::_::_,h=>simp at h;omega
 ·rename_i h
  generalize hc:(λi j=>dI ((l.map λr=>[r.1,r.2]).getD i []) ((l.map λr=>[r.1,r.2]).getD j []))=c
  have o:Ord c:=⟨λi j=>by subst hc;exact zK _ _,λi j k=>by subst hc;exact zL _ _ _⟩
  have u:=qNs o l.length
  have p:=Dc c l.length
  generalize PySem.W.kas_sort l.length=ks at u p
  generalize aM c ks=q at u p
  have hq:q.size=l.length:=by have:=p.length_eq;simpa using this
  rw [List.pairwise_map,List.pairwise_iff_getElem]
  intro i j hi hj hij
  have:=u i j hij (by rw [<-hq];simpa using hj)
  have m1:q.toList[i]<l.length:=List.mem_range.mp (p.mem_iff.mp (gR hi))
  have m2:q.toList[j]<l.length:=List.mem_range.mp (p.mem_iff.mp (gR hj))
  rw [iN,iN,sO (by simpa using hj),sO (by simpa using hi)] at this
  subst hc
  simp only [tf,<-Array.getElem_toList] at this
  unfold ja
  rw [eF,eF,gk,gk,cV m1,cV m2] at this
  rw [eF,eF,cV m1,cV m2]
  exact this
theorem mf:∀{a b:List Rx},a.Perm b->oM a->oM b->a=b
 | [],b,p,_,_=>p.nil_eq
 | x::a,[],p,_,_=>Qn p.symm.nil_eq (by simp)
 | x::a,y::b,p,ha,hb=>by
  have hx:x∈y::b:=p.mem_iff.mp dz
  have hy:y∈x::a:=p.mem_iff.mpr dz
  have ha':=yaU.mp ha
  have hb':=yaU.mp hb
  have e:x=y:=by
   rcases yag.mp hx with z|z
   ·exact z
   rcases yag.mp hy with z'|z'
   ·exact z'.symm
   ·exact qKF (hb'.1 x z) (ha'.1 y z')
  subst e
  rw [mf (List.Perm.cons_inv p) ha'.2 hb'.2]
theorem qNo {a b:List Rx}(p:a.Perm b):cP a=cP b:=mf ((me a).trans (p.trans (me b).symm)) (lM a) (lM b)
theorem qNn (O F:List Rx) (k:Nat) (hk:k<=O.length) (h:∀f∈F,∀x∈(cP O).take k,ja f x=false):(cP (O++F)).take k=(cP O).take k:=by
 have hs:=lM O
 have hl:((cP O).take k).length=k:=by rw [iw,rG];omega
 have e:cP (O++F)=(cP O).take k++cP ((cP O).drop k++F):=by
  refine mf ?_ (lM _) ?_
  ·refine (me _).trans ?_
   refine (List.Perm.append_right F (me O).symm).trans ?_
   refine (List.Perm.append_right F (.of_eq (List.take_append_drop k (cP O)).symm)).trans ?_
   rw [mY]
   exact List.Perm.append_left _ (me _).symm
  ·refine List.pairwise_append.mpr ⟨hs.sublist (tq _ _),lM _,λx hx y hy=>?_⟩
   rcases ybz.mp ((me _).mem_iff.mp hy) with z|z
   ·have hs':=hs
    rw [<-List.take_append_drop k (cP O)] at hs'
    exact (List.pairwise_append.mp hs').2.2 x hx y z
   ·exact h y z x hx
 rw [e,List.take_append_of_le_length (by omega),List.take_of_length_le (by omega)]
end Dw.T
namespace Dw.T
open Dw PySem
theorem qRt (m:Nat) {u:Th}{o:To}(l:Tl u o) {t:Int}(ht:0<=t) (f:Nat->P2):bN m (qA o.cov t) f<=bN m (qA (aP u) t) f:=by
 unfold bN
 refine vx _ λj=>?_
 have:=uo (l.c j) ht
 have g1:gp (qA o.cov t j) (f j)<=gp (qA (aP u) t j) (f j):=by unfold gp;omega
 have g0:0<=gp (qA o.cov t j) (f j):=by unfold gp;omega
 exact pE g1 g1 g0 (kW g0 g1)
noncomputable def vT:Str:=Qa "far"
def iC (m:Nat) (t:Int) (w:Wt) (x:Str×Tr):List Th:=if x.1=vT then cJ m t w (cov x) else []
theorem qMN (m:Nat) (t:Int) (ht:0<=t) (w:Wt) (hw:cT w) (a:Aq) (x:Str) (p:Tr) (h:∀u∈aC p,cg u) (hb:gT m t w a x (tl p)=true) :
  cJ m t w (cov (x,p))=cC m t w x p++iC m t w (x,p)/\∀u∈iC m t w (x,p),∃o,gK m t a o=true/\Tl u o:=by
 have G:=ug p h
 have cv:x≠dD->cov (x,p)=aC p:=λhx=>by
  cases p with
  | leaf ts=>rfl
  | fork ps=>exact Qm hx
 unfold gT at hb
 unfold cC iC
 by_cases x1:x=Qa "shut"
 ·rw [Ql x1] at hb
  have hne:x≠dD:=by rw [x1];decide
  have hnf:x≠vT:=by rw [x1];decide
  rw [Qm (λz=>hne z.1),cv hne,Qm hnf]
  refine⟨List.filter_eq_nil_iff.mpr λu hu=>?_,λu hu=>by cases hu⟩
  cases e:tl p with
  | none =>
   rw [e] at G
   have G:aC p=[]:=G
   rw [G] at hu
   cases hu
  | some o =>
   rw [e] at G hb
   rw [(lx m u (h u hu) o G.2.1 (G.2.2 u hu) t ht w hw).2 (Qp hb)]
   exact oW
 ·rw [Qm x1] at hb
  by_cases x2:x=vT
  ·rw [Ql (show x=Qa "far" from x2)] at hb
   have hne:x≠dD:=by rw [x2];decide
   rw [Qm (λz=>hne z.1),Ql x2]
   refine⟨rfl,λu hu=>?_⟩
   rw [cv hne] at hu
   have hu:=(yaQ.mp hu).1
   cases e:tl p with
   | none=>rw [e] at hb;cases hb
   | some o =>
    rw [e] at G hb
    exact⟨o,hb,G.2.2 u hu⟩
  ·rw [Qm (show x≠Qa "far" from x2)] at hb
   have x3:x=dD:=Qp hb
   rw [Qm x2]
   refine⟨?_,λu hu=>by cases hu⟩
   rw [i7]
   cases p with
   | leaf ts=>exact (Ql ⟨x3,rfl⟩).symm
   | fork ps =>
    rw [Qm (λz=>oW z.2),show cov (x,Tr.fork ps)=[] from Ql x3]
    rfl
theorem Bz (m:Nat) (t:Int) (w:Wt):∀l:List (Str×Tr),(∀x∈l,cJ m t w (cov x)=cC m t w x.1 x.2++iC m t w x)->(cJ m t w (l.flatMap cov)).Perm ((l.flatMap λx=>cC m t w x.1 x.2)++l.flatMap (iC m t w))
 | [],_=>.refl _
 | x::l,h=>by
  rw [mX,mX,mX]
  have e:cJ m t w (cov x++l.flatMap cov)=cJ m t w (cov x)++cJ m t w (l.flatMap cov):=List.filter_append ..
  rw [e,h x ir,mY,mY]
  refine List.Perm.append_left _ ?_
  refine (List.Perm.append_left _ (Bz m t w l λy hy=>h y (jH _ hy))).trans ?_
  exact List.perm_append_comm_assoc _ _ _
theorem qTx {l:List Rx}(hs:oM l) {x:Rx}(hx:x∈l):x.1<=kB l:=by
 obtain⟨l',r,rfl⟩:∃l' r,l=l'++[r]:=⟨l.dropLast,l.getLast (List.ne_nil_of_mem hx),(List.dropLast_concat_getLast _).symm⟩
 have e:kB (l'++[r])=r.1:=by unfold kB;simp
 rw [e]
 rcases ybz.mp hx with z|z
 ·have k:=(List.pairwise_append.mp hs).2.2 x z r (by simp)
  have:¬(r.1<x.1∨r.1=x.1/\r.2<x.2):=λz=>by rw [(rm r x).mpr z] at k;cases k
  omega
 ·rw [List.mem_singleton.mp z];exact Int.le_refl _
theorem qIr (m:Nat) (t:Int) (ht:0<=t) (w:Wt) (hw:cT w) (a:Aq) (top:Tr) (rs:List Rw) (h:∀u∈aC top,cg u) (hb:mj m t w a top rs=true):a.rs=(cP ((cJ m t w (aC top)).map (cN m t a.bx))).take a.mn:=by
 unfold mj at hb
 split at hb
 ·rename_i l e
  rw [jF] at hb
  obtain⟨b1,b2⟩:=hb
  have hr:=Qp b2
  unfold nG at hr
  have cu:=uW rs [([],top)] (l,[]) e
  have cu:l.flatMap cov=aC top:=by simpa [aR,aN] using cu
  have sb:=uV rs [([],top)] (l,[]) e
  have P:∀x∈l,cJ m t w (cov x)=cC m t w x.1 x.2++iC m t w x/\∀u∈iC m t w x,∃o,gK m t a o=true/\Tl u o:=λx hx =>
   qMN m t ht w hw a x.1 x.2 (λu hu=>h u (by have:=(sb x hx).1 u hu;simpa [aR,aN] using this)) (zBd.mp b1 x hx)
  have pm:=(Bz m t w l λx hx=>(P x hx).1).map (cN m t a.bx)
  rw [cu,List.map_append] at pm
  rw [qNo pm]
  generalize hO:((l.flatMap λx=>cC m t w x.1 x.2).map (cN m t a.bx))=O at hr pm ⊢
  have hF:∀f∈(l.flatMap (iC m t w)).map (cN m t a.bx),∃u o,f=cN m t a.bx u/\gK m t a o=true/\Tl u o:=λf hf=>by
   obtain⟨u,hu,rfl⟩:=yaO.mp hf
   obtain⟨x,hx,hu⟩:=List.mem_flatMap.mp hu
   obtain⟨o,o1,o2⟩:=(P x hx).2 u hu
   exact⟨u,o,rfl,o1,o2⟩
  generalize (l.flatMap (iC m t w)).map (cN m t a.bx)=F at hF pm ⊢
  by_cases h0:a.mn=0
  ·rw [hr,h0];simp
  have fa:∀o,gK m t a o=true->a.rs.length=a.mn/\kB a.rs<bN m (qA o.cov t) a.bx:=λo ho=>by
   unfold gK at ho
   rw [Qm h0,jF] at ho
   exact⟨Qp ho.1,Qp ho.2⟩
  cases F with
  | nil=>rw [i7];exact hr
  | cons f0 F =>
   obtain⟨u0,o0,_,f1,_⟩:=hF f0 dz
   have hl:=(fa o0 f1).1
   refine hr.trans (qNn O (f0::F) a.mn ?_ λf hf x hx=>?_).symm
   ·have:=congrArg List.length hr
    rw [iw,rG,hl] at this
    omega
   ·obtain⟨u,o,rfl,g1,g2⟩:=hF f hf
    have k1:=(fa o g1).2
    have k2:=qRt m g2 ht a.bx
    have k3:x.1<=kB a.rs:=by
     rw [<-hr] at hx
     exact qTx (by rw [hr];exact (lM O).sublist (tq _ _)) hx
    have k4:(cN m t a.bx u).1=bN m (qA (aP u) t) a.bx:=rfl
    cases e:ja (cN m t a.bx u) x with
    | false=>rfl
    | true =>
     have:=(rm _ _).mp e
     omega
 ·cases hb
end Dw.T
namespace Dw.T
open Dw PySem
theorem qLs (xs:List D) (k:Nat):dU xs (some (k:Int)) none=xs.drop k:=by
 simp only [dU,gw,cutAt]
 rw [Qm (by omega),jL]
 by_cases h:k<=xs.length
 ·rw [oX h,gO (by rw [kO];omega)]
 ·rw [mQ (by omega),pf (fT _),pf (by omega)]
  simp
theorem qQ (xs:List D):dq .ne (.lst xs) (.lst [])=zF (.bl (!xs.isEmpty)):=by
 rw [rh]
 cases ((bI 20 (D.lst xs)||bI 20 (D.lst []))&&(br (D.lst xs)&&br (D.lst []))) with
 | true=>cases xs<;>rfl
 | false=>cases xs<;>rfl
theorem zV (xs:List D) (h:bT xs=true):dq .eq (.lst xs) (.lst [])=zF (.bl xs.isEmpty):=by
 rw [A2]
 rw [show ((bI 20 (D.lst xs)||bI 20 (D.lst []))&&(br (D.lst xs)&&br (D.lst [])))=true from by
  show ((_||true)&&(bT xs&&true))=true
  rw [h,Bool.or_true];rfl]
 cases xs<;>rfl
theorem qQV (m:Nat) (u:Th):br (av m u)=true:=by
 have:bT (bx m λj=>sD (u.sw j))=true:=by
  show bT ((List.range m).map _)=true
  rw [kq,zBd]
  intro x _
  rfl
 show (true&&(bT (bx m λj=>sD (u.sw j))&&(true&&(true&&true))))=true
 rw [this]
 rfl
mutual
theorem Ah (m:Nat):∀p:Tr,br (aw m p)=true
 | .leaf ts=>by
  rw [aw]
  show (true&&(bT (ts.map (av m))&&true))=true
  rw [kq,zBd.mpr λu _=>qQV m u]
  rfl
 | .fork ps=>by
  rw [aw]
  show (true&&(bT (jg m ps)&&true))=true
  rw [Bi m ps]
  rfl
theorem Bi (m:Nat):∀ps:List Tr,bT (jg m ps)=true
 | []=>rfl
 | p::ps=>by
  rw [jg]
  show (br (aw m p)&&bT (jg m ps))=true
  rw [Ah m p,Bi m ps]
  rfl
end
def fQ (ev:Int) (g:List Tr):Tr:=match g with
 | [p]=>if ev=1 then p else .fork [p]
 | g=>.fork g
theorem qRx (ev:Int) (g:List Tr):aC (fQ ev g)=aN g:=by
 match g with
 | []=>rfl
 | [p] =>
  show aC (if ev=1 then p else .fork [p])=_
  by_cases h:ev=1
  ·rw [Ql h,aN,aN,eV]
  ·rw [Qm h,aC]
 | p::q::g=>rfl
theorem qTK (ev:Int) (g:List Tr):nd (fQ ev g)<=bw g+1:=by
 match g with
 | []=>exact fT _
 | [p] =>
  show nd (if ev=1 then p else .fork [p])<=_
  by_cases h:ev=1
  ·rw [Ql h,bw,bw];omega
  ·rw [Qm h,nd];omega
 | p::q::g=>exact fT _
theorem qTL (ev:Int) (g:List Tr):hg (fQ ev g)<=bY g+1:=by
 match g with
 | []=>exact fT _
 | [p] =>
  show hg (if ev=1 then p else .fork [p])<=_
  by_cases h:ev=1
  ·rw [Ql h,bY,bY];omega
  ·rw [Qm h,hg];omega
 | p::q::g=>exact fT _
def gd (ev:Int) (s cnt:Nat) (row:List Tr):List Tr:=(List.range cnt).map λi=>fQ ev ((row.drop (i * s)).take s)
theorem Bj (ev:Int) (s k:Nat) (row:List Tr):gd ev s (k+1) row=gd ev s k row++[fQ ev ((row.drop (k * s)).take s)]:=by
 unfold gd
 rw [pF,fh]
 rfl
theorem BO (s k:Nat) (row:List Tr):row.take ((k+1) * s)=row.take (k * s)++(row.drop (k * s)).take s:=by rw [Nat.succ_mul,List.take_add]
theorem Bk (ev:Int) (s:Nat) (row:List Tr):∀k,aN (gd ev s k row)=aN (row.take (k * s))
 | 0=>by rw [Nat.zero_mul];rfl
 | k+1=>by
  rw [Bj,BO,iS,iS,Bk ev s row k]
  show _++(aC _++[])=_
  rw [qRx,eV]
theorem Ai (ev:Int) (s:Nat) (row:List Tr):∀k,bw (gd ev s k row)<=bw (row.take (k * s))+k
 | 0=>mP _
 | k+1=>by
  rw [Bj,BO,nV,nV]
  have h1:=Ai ev s row k
  have h2:=qTK ev ((row.drop (k * s)).take s)
  show _+(nd _+0)<=_
  omega
theorem qQR (ev:Int) (s k:Nat) (row:List Tr):bY (gd ev s k row)<=bY row+1:=qO λp hp=>by
 obtain⟨i,_,rfl⟩:=yaO.mp hp
 have h1:=qTL ev ((row.drop (i * s)).take s)
 have h2:bY ((row.drop (i * s)).take s)<=bY row:=qO λq hq=>ju (List.mem_of_mem_drop (List.mem_of_mem_take hq))
 omega
theorem qNS (len s:Nat) (h:0<len) (hs:0<s):(eJ 0 (len:Int) (s:Int)).toNat=(len - 1) / s+1:=by
 unfold eJ
 rw [Ql (by omega),Ql (by omega),show (len:Int) - 0 - 1=((len - 1:Nat):Int) by omega,<-Int.natCast_ediv]
 generalize (len - 1) / s=q
 omega
theorem AD (len s:Nat) (hs:2<=s) (h:2<=len):(len - 1) / s+1<=(len+1) / 2:=by
 have:=Nat.div_le_div_left (a:=len - 1) hs (by decide)
 omega
theorem qRI (len s:Nat) (hs:2<=s) (h:2<=len):len<=((len - 1) / s+1) * s:=by
 have h1:=Nat.div_add_mod (len - 1) s
 have h2:=Nat.mod_lt (len - 1) (show 0<s by omega)
 rw [Nat.succ_mul,Nat.mul_comm]
 omega
section
variable {call:Nat->List D->Option R}
theorem qV {c:C}{body:List S}(I:Nat->En->Prop)
  (st:∀m Z,I m Z->(∃x,aa call Z c=some (x,.bl false))∨∃x,aa call Z c=some (x,.bl true)/\∃Z2,ae call Z body=some (.nx Z2)/\∃m',m'<m/\I m' Z2) :
  ∀fuel m Z,m<fuel->I m Z->∃m' Z',fZ (fun Z'=>aa call Z' c) (fun Z'=>ae call Z' body) fuel Z=some (.nx Z')/\I m' Z'/\∃x,aa call Z' c=some (x,.bl false)
 | 0,m,Z,h,_=>by omega
 | fuel+1,m,Z,h,hi=>by
  rcases st m Z hi with ⟨x,e⟩|⟨x,e,Z2,e2,m',hm,hi2⟩
  ·exact⟨m,Z,by show (aa call Z c).bind _=_;rw [e];rfl,hi,x,e⟩
  ·obtain⟨m3,Z',e3,r⟩:=qV I st fuel m' Z2 (by omega) hi2
   refine⟨m3,Z',?_,r⟩
   show (aa call Z c).bind (t9 Z ((ae call Z body).bind (lC (fZ _ _ fuel))))=_
   rw [e]
   show (ae call Z body).bind (lC (fZ _ _ fuel))=_
   rw [e2]
   exact e3
theorem uy {n:Nat}(h:n<2^100):n<fR:=dy h (yf (by decide) (by decide))
theorem qKe (m:Nat) (ev:Int) (g:List Tr):ae call [zF (.lst (g.map (aw m))),zF (.int ev)] f_law_fork_of.body=some (.rt (false,aw m (fQ ev g))):=by
 have e1:aa call [zF (.lst (g.map (aw m))),zF (.int ev)] (.cmp .eq V1 (kI 1))=zF (.bl (decide (ev=1))):=bX rfl rfl (by show some (false,D.bl (ev == 1))=some (false,_);congr 3)
 have e2:aa call [zF (.lst (g.map (aw m))),zF (.int ev)] (.cmp .eq (.bi .len [V0]) (kI 1))=zF (.bl (decide (((g.map (aw m)).length:Int)=1))):=bX (qJ (dG rfl rfl)) rfl (by show some (false,D.bl ((((g.map (aw m)).length:Nat):Int) == 1))=some (false,_);congr 3)
 have e3:=iM (y:=false) e1 e2
 have fin:fQ ev g=.fork g->(decide (ev=1)&&decide (((g.map (aw m)).length:Int)=1))=false->ae call [zF (.lst (g.map (aw m))),zF (.int ev)] f_law_fork_of.body=some (.rt (false,aw m (fQ ev g))):=by
  intro h1 h2
  rw [h2] at e3
  refine aq e3 ?_
  rw [h1,aw,n9]
  exact ao rfl rfl
 match g with
 | []=>exact fin rfl (by simp)
 | [p] =>
  by_cases h:ev=1
  ·rw [Qk h] at e3
   rw [show fQ ev [p]=p from Ql h]
   exact aU e3 (ao rfl rfl) rfl
  ·exact fin (Qm h) (by rw [Qj h];rfl)
 | p::q::g=>exact fin rfl (by
   rw [Qj (p:=((((p::q::g).map (aw m)).length:Nat):Int)=1) (by simp only [eB,cI];omega),i6])
end
end Dw.T
namespace Dw.T
open Dw PySem
section
variable {call:Nat->List D->Option R}
abbrev nh (rest:List Th) (m:Nat) (c wide:Int) (row:List Tr) (o4:Option R):En:=[zF (.lst (rest.map (av m))),zF (.int c),zF (.int wide),zT (.lst (row.map (aw m))),o4,none,none]
theorem qM9 (m:Nat) (c wide:Int) (hc:ck c) (hw:0<wide/\wide<=16) (dr:Dr call) (rest:List Th) (row:List Tr) (hr:row.length<=1000) (o4:Option R) :
  ∃(k:Nat) (ex:List Tr) (o4':Option R),(ex=[]∨ex=[.leaf []])/\ae call (nh rest m c wide row o4) zbK =
    some (.nx [zF (.lst ((rest.drop (k+1)).map (av m))),zF (.int c),zF (.int wide),zT (.lst ((row++Tr.leaf (rest.take (k+1))::ex).map (aw m))),o4',none,none]):=by
 have l1:(row.map (aw m)).length=row.length:=bA _
 obtain⟨k,hk⟩:=i4 (bL c (60+((row.map (aw m)).length:Int)) wide hw.1).1
 have h54:=dr c (60+((row.map (aw m)).length:Int)) wide hc (by omega) ⟨hw.1,by omega⟩
 rw [hk] at h54
 have e1:(1+(k:Int))=((k+1:Nat):Int):=by omega
 have hS:aw m (.leaf (rest.take (k+1)))=.tup [tx "leaf",.tup ((rest.map (av m)).take (k+1))]:=by rw [aw,oU]
 have hR:(rest.drop (k+1)).map (av m)=(rest.map (av m)).drop (k+1):=by rw [oV]
 have hM:(row++[Tr.leaf (rest.take (k+1))]).map (aw m)=row.map (aw m)++[aw m (.leaf (rest.take (k+1)))]:=by rw [fh];rfl
 have lS:((row++[Tr.leaf (rest.take (k+1))]).map (aw m)).length=row.length+1:=by simp
 have h9:=dr c (160+(((row++[Tr.leaf (rest.take (k+1))]).map (aw m)).length:Int)) 9 hc (by omega) (by decide)
 generalize hd:aT c (160+(((row++[Tr.leaf (rest.take (k+1))]).map (aw m)).length:Int)) 9=d at h9
 have pre:∀z,ae call [zF (.lst ((rest.drop (k+1)).map (av m))),zF (.int c),zF (.int wide),zT (.lst ((row++[Tr.leaf (rest.take (k+1))]).map (aw m))),zF (.int ((k+1:Nat):Int)),none,none] (zbK.drop 3)=z->ae call (nh rest m c wide row o4) zbK=z:=by
  intro z hz
  refine ay (false,.int ((k+1:Nat):Int)) (by simp only [eO,pk,cQ,bS,fe,ff,ag,ax,cm,bQ,bP,bE,ei,jZ,kv,cj,lX,rL,iQ,eZ,h54,e1]) ?_
  refine km (false,aw m (.leaf (rest.take (k+1)))) (by rw [hS];simp only [gz,i6,kQ,kR,eQ,dB,cQ,jZ,kv,pk,nF,ax,bQ,bP,bE,cj,vj,og,cm,jc,qI,qN,bS,lX,qLC,eh,cI,eC,Nat.reduceAdd,jT,↓reduceIte]) rfl (j9 (by omega)) ?_
  refine ay (true,.lst ((rest.map (av m)).drop (k+1))) (by simp only [gz,i6,kQ,kR,nF,pk,ax,bQ,bP,bE,cj,og,cm,jc,vj,qI,qLs]) ?_
  rw [<-hz,hM,hR]
  rfl
 have ht:aa call [zF (.lst ((rest.drop (k+1)).map (av m))),zF (.int c),zF (.int wide),zT (.lst ((row++[Tr.leaf (rest.take (k+1))]).map (aw m))),zF (.int ((k+1:Nat):Int)),none,none] (.cmp .eq (.call 55 [V1,(.bin .add (kI 160) (.bi .len [V3])),(kI 9)]) (kI 1))=zF (.bl (decide (d=1))):=by
  refine bX (x:=.int d) (by simp only [pk,fe,ff,ag,ax,cm,bQ,bP,bE,ei,eO,cQ,bS,jZ,kv,cj,lX,rL,iQ,eZ,h9]) rfl ?_
  show some (false,D.bl (d == 1))=some (false,_)
  congr 3
 by_cases h:d=1
 ·rw [Qk h] at ht
  refine⟨k,[.leaf []],zF (.int ((k+1:Nat):Int)),.inr rfl,pre _ (fY ht (km (false,.tup [tx "leaf",.tup []]) rfl rfl (j9 (by omega)) rfl) ?_)⟩
  rw [show row++[Tr.leaf (rest.take (k+1)),Tr.leaf []]=(row++[Tr.leaf (rest.take (k+1))])++[Tr.leaf []] by rw [jG];rfl,fh (l₁:=row++[Tr.leaf (rest.take (k+1))])]
  rfl
 ·rw [Qj h] at ht
  exact⟨k,[],zF (.int ((k+1:Nat):Int)),.inl rfl,pre _ (aq ht rfl)⟩
theorem qKc (m:Nat) (c wide:Int) (hc:ck c) (hw:0<wide/\wide<=16) (dr:Dr call) (ts:List Th) (hl:ts.length<=100) :
  ∃(row:List Tr) (o4:Option R),row≠[]/\aN row=ts/\bY row=0/\bw row=row.length/\row.length<=2 * ts.length+2/\fZ (fun Z'=>aa call Z' (.or (.cmp .ne V0 (.lst [])) (.cmp .eq V3 (.lst [])))) (fun Z'=>ae call Z' zbK) fR [zF (.lst (ts.map (av m))),zF (.int c),zF (.int wide),zT (.lst []),none,none,none] =
    some (.nx [zF (.lst []),zF (.int c),zF (.int wide),zT (.lst (row.map (aw m))),o4,none,none]):=by
 have hcond:∀(rest:List Th) (row:List Tr) (o4:Option R),aa call (nh rest m c wide row o4) (.or (.cmp .ne V0 (.lst [])) (.cmp .eq V3 (.lst [])))=zF (.bl (!rest.isEmpty||row.isEmpty)):=by
  intro rest row o4
  have h:=jq (call:=call) (Z:=(nh rest m c wide row o4)) (bX (a:=.v 0) (b:=.lst []) rfl rfl (qQ (rest.map (av m)))) (bX (a:=.v 3) (b:=.lst []) rfl rfl (zV (row.map (aw m)) (by rw [kq,zBd];exact λp _=>Ah m p)))
  rw [sW,sW] at h
  exact h
 obtain⟨k',Z',hwh,⟨rest,row,o4,_,hu,hh,hn,hb,rfl⟩,x,hx⟩:=qV (c:=.or (.cmp .ne V0 (.lst [])) (.cmp .eq V3 (.lst [])))
  (λk Z=>∃(rest:List Th) (row:List Tr) (o4:Option R),k=rest.length+(if row=[] then 1 else 0)/\aN row++rest=ts/\bY row=0/\bw row=row.length/\((row=[]/\rest=ts)∨(row≠[]/\row.length+2 * rest.length<=2 * ts.length+2))/\Z=(nh rest m c wide row o4)) (by
   rintro k Z ⟨rest,row,o4,hk,hu,hh,hn,hb,rfl⟩
   have hv:=hcond rest row o4
   cases e:(!rest.isEmpty||row.isEmpty) with
   | false=>rw [e] at hv;exact .inl ⟨false,hv⟩
   | true =>
    rw [e] at hv
    have hrl:row.length<=1000:=by
     rcases hb with ⟨h,_⟩|⟨_,h⟩
     ·rw [h];exact mP _
     ·omega
    obtain⟨j,ex,o4',hex,hbd⟩:=qM9 m c wide hc hw dr rest row hrl o4
    have hne:row++Tr.leaf (rest.take (j+1))::ex≠[]:=by simp
    have hexu:aN ex=[]/\bY ex=0/\bw ex=ex.length/\ex.length<=1:=by rcases hex with rfl|rfl<;>exact⟨rfl,rfl,rfl,by decide⟩
    refine .inr ⟨false,hv,_,hbd,(rest.drop (j+1)).length,?_,rest.drop (j+1),row++Tr.leaf (rest.take (j+1))::ex,o4',?_,?_,?_,?_,.inr ⟨hne,?_⟩,rfl⟩
    ·rw [hk,kO]
     cases rest with
     | nil =>
      cases row with
      | nil=>simp
      | cons p row=>simp at e
     | cons u rest=>rw [cI];omega
    ·split
     ·rename_i hz;exact Qn hz hne
     ·rfl
    ·rw [iS,aN,hexu.1,eV,aC,jG,pd]
     exact hu
    ·have:bY (row++Tr.leaf (rest.take (j+1))::ex)<=0:=qO λp hp=>by
      rcases zBv.mp hp with hp|hp
      ·have:=ju hp;omega
      ·rcases zCb.mp hp with rfl|hp
       ·exact fT _
       ·have:=ju hp;omega
     omega
    ·rw [nV,bw,hexu.2.2.1,dF,cI,hn,nd];omega
    ·rw [dF,cI,kO]
     rcases hb with ⟨h1,h2⟩|⟨h1,h2⟩
     ·rw [h1,h2,eC];omega
     ·cases rest with
      | nil =>
       cases row with
       | nil=>exact Qn rfl h1
       | cons p row=>simp at e
      | cons u rest=>rw [cI] at h2 ⊢;omega) fR (ts.length+1) [zF (.lst (ts.map (av m))),zF (.int c),zF (.int wide),zT (.lst []),none,none,none] (uy (by omega)) ⟨ts,[],none,rfl,rfl,rfl,rfl,.inl ⟨rfl,rfl⟩,rfl⟩
 rw [hcond rest row o4] at hx
 have hx:(!rest.isEmpty||row.isEmpty)=false:=by injection hx with hx;injection hx with _ hx;injection hx
 rw [Bool.or_eq_false_iff] at hx
 have hr:rest=[]:=by
  cases rest with
  | nil=>rfl
  | cons u r=>simp at hx
 subst hr
 have hne:row≠[]:=by
  rintro rfl
  simp at hx
 refine⟨row,o4,hne,by rw [eV] at hu;exact hu,hh,hn,?_,hwh⟩
 rcases hb with ⟨h,_⟩|⟨_,h⟩
 ·exact Qn h hne
 ·simpa using h
end
end Dw.T
namespace Dw.T
open Dw PySem
section
variable {call:Nat->List D->Option R}
theorem qPI (m:Nat) (c wide:Int) (hc:ck c) (hw:4<=wide/\wide<=16) (dr:Dr call) (C59:∀(ev:Int) (g:List Tr),call 60 [.lst (g.map (aw m)),.int ev]=zF (aw m (fQ ev g))) (row:List Tr) (hr:2<=row.length/\row.length<=1000) (turn:Nat) (ht:turn<=1000) (o0 o4 o6:Option R) :
  ∃(ev:Int) (s:Nat) (o4' o6':Option R),2<=s/\ae call [o0,zF (.int c),zF (.int wide),zT (.lst (row.map (aw m))),o4,zF (.int (turn:Int)),o6] sg =
    some (.nx [o0,zF (.int c),zF (.int wide),zT (.lst ((gd ev s ((row.length - 1) / s+1) row).map (aw m))),o4',zF (.int ((turn+1:Nat):Int)),o6']):=by
 obtain⟨k,hk⟩:=i4 (bL c (260+(turn:Int)) (wide - 1) (by omega)).1
 have hkb:=(bL c (260+(turn:Int)) (wide - 1) (by omega)).2
 rw [hk] at hkb
 have h1:=dr c (260+(turn:Int)) (wide - 1) hc (by omega) ⟨by omega,by omega⟩
 rw [hk] at h1
 have h2:=dr c (360+(turn:Int)) 2 hc (by omega) (by decide)
 generalize aT c (360+(turn:Int)) 2=ev at h2
 have e1:(2+(k:Int))=((k+2:Nat):Int):=by omega
 have e2:((turn:Int)+1)=((turn+1:Nat):Int):=by omega
 refine⟨ev,k+2,zF (.int ((k+2:Nat):Int)),zF (.int ev),by omega,?_⟩
 refine ay (false,.int ((k+2:Nat):Int)) (by simp [h1,e1]) ?_
 refine ay _ h2 ?_
 have l1:(row.map (aw m)).length=row.length:=bA _
 have hc1:=AD row.length (k+2) (by omega) hr.1
 refine ay (true,.lst ((gd ev (k+2) ((row.length - 1) / (k+2)+1) row).map (aw m))) ?_ ?_
 ·refine rj (its:=(List.range ((row.length - 1) / (k+2)+1)).map λi=>.int (0+(i:Nat) * ((k+2:Nat):Int))) rfl ?_ (bf (by rw [bA,mR];omega)) rfl ?_
  ·rw [qQh,Ql (by omega),l1,qNS _ _ (by omega) (by omega)]
  ·unfold gd
   rw [oY]
   refine eN call _ (λi:Nat=>D.int (0+(i:Nat) * ((k+2:Nat):Int))) (λi=>aw m (fQ ev ((row.drop (i * (k+2))).take (k+2)))) _ λi _=>⟨[zF (.int (0+(i:Nat) * ((k+2:Nat):Int))),zF (.int ev),zT (.lst (row.map (aw m))),zF (.int ((k+2:Nat):Int))],false,rfl,?_⟩
   have z1:(0+(i:Int) * ((k+2:Nat):Int))=((i * (k+2):Nat):Int):=by rw [Int.natCast_mul,Int.zero_add]
   have z2:(((i * (k+2):Nat):Int)+((k+2:Nat):Int))=((i * (k+2)+(k+2):Nat):Int):=by rw [<-Int.natCast_add]
   have hcut:dU (row.map (aw m)) (some ((i * (k+2):Nat):Int)) (some ((i * (k+2)+(k+2):Nat):Int))=((row.drop (i * (k+2))).take (k+2)).map (aw m):=by
    rw [A4 _ _ _ (by omega),Nat.add_sub_cancel_left,oU,oV]
   have oF:=C59 ev ((row.drop (i * (k+2))).take (k+2))
   rw [z1]
   simp only [fe,ff,ag,nF,pk,ax,cm,bQ,bP,bE,cj,og,jc,eO,iQ,z2,bS,qI,hcut,ei,eZ,oF]
 ·exact ay _ rfl rfl
theorem qPH (m:Nat) (c wide:Int) (hc:ck c) (hw:4<=wide/\wide<=16) (dr:Dr call) (C59:∀(ev:Int) (g:List Tr),call 60 [.lst (g.map (aw m)),.int ev]=zF (aw m (fQ ev g))) (row:List Tr) (h0:row≠[]) (hr:row.length<=128) (hh:bY row=0) (hn:bw row=row.length) (o0 o4:Option R) :
  ∃(p:Tr) (o4' o5' o6':Option R),aC p=aN row/\nd p<=4000/\hg p<=8/\fZ (fun Z'=>aa call Z' (.cmp .gt (.bi .len [V3]) (kI 1))) (fun Z'=>ae call Z' sg) fR [o0,zF (.int c),zF (.int wide),zT (.lst (row.map (aw m))),o4,zF (.int 0),none] =
    some (.nx [o0,zF (.int c),zF (.int wide),zT (.lst [aw m p]),o4',o5',o6']):=by
 have hcond:∀(row:List Tr) (o4 o5 o6:Option R),aa call [o0,zF (.int c),zF (.int wide),zT (.lst (row.map (aw m))),o4,o5,o6] (.cmp .gt (.bi .len [V3]) (kI 1))=zF (.bl (decide ((1:Int)<(row.length:Int)))):=by
  intro row o4 o5 o6
  refine bX (qJ (dG rfl rfl)) rfl ?_
  rw [qO0,bA]
 obtain⟨k',Z',hwh,⟨r2,turn,o4',o6',_,hne,hu,_,hb,⟨k,hk1,hk2⟩,rfl⟩,x,hx⟩:=qV (c:=.cmp .gt (.bi .len [V3]) (kI 1))
  (λj Z=>∃(r2:List Tr) (turn:Nat) (o4 o6:Option R),j=r2.length/\r2≠[]/\aN r2=aN row/\turn+r2.length<=128/\bw r2+3 * r2.length<=512/\(∃k,bY r2+k<=7/\r2.length<=2^k)/\Z=[o0,zF (.int c),zF (.int wide),zT (.lst (r2.map (aw m))),o4,zF (.int (turn:Int)),o6]) (by
   rintro j Z ⟨r2,turn,o4,o6,rfl,hne,hu,ht,hb,⟨k,hk1,hk2⟩,rfl⟩
   have hv:=hcond r2 o4 (zF (.int (turn:Int))) o6
   by_cases e:(1:Int)<(r2.length:Int)
   ·rw [Qk e] at hv
    obtain⟨ev,s,o4',o6',hs,hbd⟩:=qPI m c wide hc hw dr C59 r2 ⟨by omega,by omega⟩ turn (by omega) o0 o4 o6
    have l2:(gd ev s ((r2.length - 1) / s+1) r2).length=(r2.length - 1) / s+1:=by unfold gd;rw [bA,mR]
    have c1:=AD r2.length s hs (by omega)
    have c2:=qRI r2.length s hs (by omega)
    have n1:=Ai ev s r2 ((r2.length - 1) / s+1)
    have n2:=qQR ev s ((r2.length - 1) / s+1) r2
    have n3:=Bk ev s r2 ((r2.length - 1) / s+1)
    rw [gO c2] at n1 n3
    refine .inr ⟨false,hv,_,hbd,_,?_,gd ev s ((r2.length - 1) / s+1) r2,turn+1,o4',o6',rfl,?_,by rw [n3,hu],?_,?_,?_,rfl⟩
    ·rw [l2];omega
    ·intro z
     rw [z] at l2
     simp at l2
    ·rw [l2];omega
    ·rw [l2];omega
    ·cases k with
     | zero=>rw [Nat.pow_zero] at hk2;omega
     | succ k =>
      rw [Nat.pow_succ] at hk2
      exact⟨k,by omega,by rw [l2];omega⟩
   ·rw [Qj e] at hv
    exact .inl ⟨false,hv⟩) fR row.length [o0,zF (.int c),zF (.int wide),zT (.lst (row.map (aw m))),o4,zF (.int 0),none] (uy (by omega)) ⟨row,0,o4,none,rfl,h0,rfl,by omega,by omega,⟨7,by omega,by omega⟩,rfl⟩
 rw [hcond] at hx
 have hx:decide ((1:Int)<(r2.length:Int))=false:=by injection hx with hx;injection hx with _ hx;injection hx
 have hx:=of_decide_eq_false hx
 match r2,hne with
 | [p],_ =>
  refine⟨p,o4',_,o6',?_,?_,?_,hwh⟩
  ·rw [<-hu,aN,aN,eV]
  ·rw [bw,bw] at hb;omega
  ·rw [bY,bY] at hk1;omega
 | p::q::r,_=>simp only [cI] at hx;omega
theorem qM3 (m:Nat) (c:Int) (hc:ck c) (dr:Dr call) (C59:∀(ev:Int) (g:List Tr),call 60 [.lst (g.map (aw m)),.int ev]=zF (aw m (fQ ev g))) (ts:List Th) (hl:ts.length<=60) :
  ∃p:Tr,aC p=ts/\nd p<=4000/\hg p<=8/\ae call [zF (.lst (ts.map (av m))),zF (.int c),none,none,none,none,none] f_law_shape_by.body=some (.rt (false,aw m p)):=by
 have h59:=dr c 59 3 hc (by decide) (by decide)
 have b59:=bL c 59 3 (by decide)
 obtain⟨wide,hw,hix⟩:∃wide:Int,(4<=wide/\wide<=16)/\aH (.lst [.int 4,.int 4,.int 16]) (.int (aT c 59 3))=zF (.int wide):=by
  have:=oy (.int 4) (.int 4) (.int 16) _ b59
  rcases mh b59 with h|h|h
  ·exact⟨4,by decide,by rw [this,h];rfl⟩
  ·exact⟨4,by decide,by rw [this,h];rfl⟩
  ·exact⟨16,by decide,by rw [this,h];rfl⟩
 obtain⟨row,o4,g1,g2,g3,g4,g5,g6⟩:=qKc m c wide hc ⟨by omega,hw.2⟩ dr ts (by omega)
 obtain⟨p,p4,p5,p6,q1,q2,q3,q4⟩:=qPH m c wide hc hw dr C59 row g1 (by omega) g3 g4 (zF (.lst [])) o4
 refine⟨p,by rw [q1,g2],q2,q3,?_⟩
 have l3:3<=lim:=bf (by decide)
 refine ay _ (jQ rfl (by simp [h59]) hix) ?_
 refine ay _ rfl ?_
 refine uJ g6 ?_
 refine ay _ rfl ?_
 refine uJ q4 ?_
 exact ao rfl rfl
end
end Dw.T
namespace Dw.T
open Dw PySem
def k9 (m:Nat) (x:Sk):D:=.tup [bh x.1,aw m x.2]
theorem BE (q:List Int):∀(a j:Nat) (ps:List Tr),(cB q a ps)[j]?=(ps[j]?).map λp=>(q++[((a+j:Nat):Int)],p)
 | _,_,[]=>by simp [cB]
 | a,0,p::ps=>by simp [cB]
 | a,j+1,p::ps=>by
  rw [cB,cm,cm,BE q (a+1) j ps,show a+1+j=a+(j+1) by omega]
theorem qLp {α:Type}{l:List α}{j:Nat}{x:α}(h:l[j]?=some x):l.drop j=x::l.drop (j+1):=by
 obtain⟨hl,rfl⟩:=zBo.mp h
 exact sL hl
section
variable {call:Nat->List D->Option R}{Z:En}
theorem lF {o:BOp}{a b:C}{x y:D}{r:Option R}(ha:pk Z a (aa call Z a)=some x) (hb:pk Z b (aa call Z b)=some y) (h:d5 o x y=r):aa call Z (.bin o a b)=r:=by rw [eO,ha,hb];exact h
theorem qKh {tg:Tg}{rs:List C}{body:List S}{n:Nat}{Z':En}{rest:List S}{z:Option Ou}(h:bG call Z rs=some [.int (n:Int)]) (hn:n<=10000) (hf:bC call body tg ((List.range n).map λi=>.int ((n:Int) - 1 - (i:Nat))) Z=some (.nx Z')) (k:ae call Z' rest=z):ae call Z (.forV tg rs body::rest)=z:=by
 refine qNm h ?_ hf k
 rw [qS5,Ql (by omega)]
 simp
theorem qU8 (m:Nat) (ts:List Th):aH (aw m (.leaf ts)) (.int 0)=zF (tx "leaf"):=by rw [aw];rfl
theorem qU9 (m:Nat) (ps:List Tr):aH (aw m (.fork ps)) (.int 0)=zF (tx "fork"):=by rw [aw];rfl
theorem yM (m:Nat) (ps:List Tr):aH (aw m (.fork ps)) (.int 1)=zF (.tup (ps.map (aw m))):=by rw [aw,n9];rfl
def gA (m:Nat) (t:Int) (w:Wt) (f:Nat->P2) (ts:List Th):List Rx:=cP ((cJ m t w ts).map (cN m t f))
theorem qKa (m:Nat) (t:Int) (w:Wt) (f:Nat->P2) (ts:List Th) (hl:ts.length<64) (C74:∀u∈ts,call 74 [aD m w,av m u,.int t]=zF (.bl (bW m u t w)))
  (C64:∀u∈ts,call 64 [.tup (bx m λj=>sD (u.sw j)),.int t]=zF (af m (qA (aP u) t))) (C67:∀u∈ts,call 67 [af m (qA (aP u) t),af m f]=zF (.int (bN m (qA (aP u) t) f))) :
  ae call [zF (.lst (ts.map (av m))),zF (aD m w),zF (.int t),zF (af m f),none] f_law_rows_of.body=some (.rt (true,.lst ((gA m t w f ts).map ar))):=by
 have l2:2<=lim:=bf (by decide)
 have hcf:aa call [zF (.lst (ts.map (av m))),zF (aD m w),zF (.int t),zF (af m f),none] (.compF V0 (.call 74 [V2,V0,V1]) 1 [2,1] (.one 0) V0)=zT (.lst ((cJ m t w ts).map (av m))):=by
  rw [Dh]
  show (jA call (.call 74 [V2,V0,V1]) V0 [none,zF (.int t),zF (aD m w)] (.one 0) (ts.map (av m))).bind _=_
  rw [vM (av m) (av m) (λu=>bW m u t w) ts λu hu=>⟨_,rfl,by have:=C74 u hu;simp [this],λ_=>⟨false,rfl⟩⟩]
  rfl
 refine ay _ hcf ?_
 have hcs:aa call [zF (.lst (ts.map (av m))),zF (aD m w),zF (.int t),zF (af m f),zF (.lst ((cJ m t w ts).map (av m)))] (.compS (.tup [(.call 67 [(.call 64 [(.ix V0 (kI 1)),V1]),V2]),(.ix V0 (kI 0))]) 1 [2,3] (.one 0) V4)=zT (.lst ((cJ m t w ts).map λu=>ar (cN m t f u))):=
  hU rfl rfl rfl (eN call _ (av m) (λu=>ar (cN m t f u)) (cJ m t w ts) λu hu=>by
   have hu:=(yaQ.mp hu).1
   have oE:=C64 u hu
   have oC:=C67 u hu
   exact⟨_,false,rfl,by simp [yv,tH,oE,oC,l2];rfl⟩)
 have hs:(cJ m t w ts).length<=ts.length:=yg _ _
 have hs2:=uI ((cJ m t w ts).map (cN m t f)) (by rw [bA];omega)
 rw [List.map_map] at hs2
 exact ao (dG (iR hcs) hs2) rfl
theorem qQX (r:Rx) (l:List Rx):∃b,dq .notin (ar r) (.lst (l.map ar))=zF (.bl b):=by
 have h1:bT (l.map ar)=true:=lU l
 exact⟨!(dj (l.map ar) (ar r)),by simp [dq,eI,h1,ar]⟩
abbrev lE (rows due:List Rx) (c:Int) (k:Nat) (o:Option R):En:=[zF (.lst (rows.map ar)),zF (.lst (due.map ar)),zF (.int c),zF (.int (k:Int)),o]
theorem qJ7 (rows due:List Rx) (c:Int) (k:Nat) (hk:k<=9000) (hc:ck c) (dr:Dr call):∃x:Str,ae call (lE rows due c k none) f_law_word_by.body=some (.rt (false,.str x)):=by
 have h55:=dr c (500+(k:Int)) 12 hc (by omega) (by decide)
 have hb:=bL c (500+(k:Int)) 12 (by decide)
 generalize aT c (500+(k:Int)) 12=d at h55 hb
 have e1:aa call (lE rows due c k (zF (.int d))) (.and (.cmp .lt V4 (kI 6)) (.cmp .eq V0 (.lst [])))=zF (.bl (decide (d<6)&&(rows.map ar).isEmpty)):=iM (y:=false) (bX rfl rfl (kh _ _)) (bX rfl rfl (zV _ (lU rows)))
 have e2:∃b,aa call (lE rows due c k (zF (.int d))) (.and (.cmp .lt V4 (kI 7)) (.and (.cmp .ne V0 (.lst [])) (.cmp .notin (.ix V0 (kI 0)) V1)))=zF (.bl b):=by
  have h7:aa call (lE rows due c k (zF (.int d))) (.cmp .lt V4 (kI 7))=zF (.bl (decide (d<7))):=bX rfl rfl (kh _ _)
  cases h:decide (d<7) with
  | false=>rw [h] at h7;exact⟨_,jt h7⟩
  | true =>
   rw [h] at h7
   cases rows with
   | nil=>exact⟨_,hV h7 (jt (bX rfl rfl (qQ [])))⟩
   | cons r rs =>
    obtain⟨b,hb⟩:=qQX r due
    exact⟨b,hV h7 (hV (bX rfl rfl (qQ _)) (bX (um (jQ rfl rfl (by rw [lB,show (0:Int)=((0:Nat):Int) from rfl,u9];rfl))) rfl hb))⟩
 obtain⟨b2,e2⟩:=e2
 have pre:∀z,ae call (lE rows due c k (zF (.int d))) (f_law_word_by.body.drop 1)=z->ae call (lE rows due c k none) f_law_word_by.body=z:=λz hz=>ay _ h55 hz
 cases b1:(decide (d<6)&&(rows.map ar).isEmpty) with
 | true=>rw [b1] at e1;exact⟨_,pre _ (aU e1 (ao rfl rfl) rfl)⟩
 | false =>
  rw [b1] at e1
  cases b2 with
  | true=>exact⟨_,pre _ (aq e1 (aU e2 (ao rfl rfl) rfl))⟩
  | false =>
   have d6:fK 6=true:=rfl
   have hm:d.fmod 6=d % 6:=yi _ (by decide)
   obtain⟨j,hj⟩:=i4 (show 0<=d % 6 by omega)
   have hj6:j<6:=by omega
   obtain⟨x,hx⟩:∃x:Str,([tx "open",tx "open",tx "open",tx "open",tx "shut",tx "far"]:List D)[j]?=some (.str x):=by
    match j,hj6 with
    | 0,_=>exact⟨_,rfl⟩
    | 1,_=>exact⟨_,rfl⟩
    | 2,_=>exact⟨_,rfl⟩
    | 3,_=>exact⟨_,rfl⟩
    | 4,_=>exact⟨_,rfl⟩
    | 5,_=>exact⟨_,rfl⟩
   refine⟨x,pre _ (aq e1 (aq e2 (ao (jQ ?_ ?_ (kG _ j _ hx hj)) rfl)))⟩
   ·have l6:6<=lim:=bf (by decide)
    simp [l6]
   ·simp [d6,hm]
end
end Dw.T
namespace Dw.T
open Dw PySem
theorem A6 (a b:List Rx) (h:a.length+b.length<=10000):d5 .add (.lst (a.map ar)) (.lst (b.map ar))=zT (.lst ((a++b).map ar)):=by
 show (if (a.map ar).length+(b.map ar).length<=lim then zT (D.lst (a.map ar++b.map ar)) else none)=_
 rw [Ql (bf (by rw [bA,bA];omega)),fh]
abbrev mE (a b c d e f:Option R) (m:Nat) (rows:List Rw) (led:List Rx) (st:List Sk) (o9 o10 o11 o12 o13:Option R):En:=[a,b,c,d,e,f,zT (.lst (rows.map aI)),zF (.lst (led.map ar)),zT (.lst ((st.map (k9 m)).reverse)),o9,o10,o11,o12,o13]
section
variable {call:Nat->List D->Option R}{a b c d e f:Option R}
theorem qPJ (m:Nat) (q:List Int) (hq:q.length<=1000) (ps:List Tr) (hp:ps.length<=5000) (rows:List Rw) (led:List Rx) (st:List Sk) (hs:st.length<=5000) (o11 o12 o13:Option R) :
  ∃o13',ae call (mE a b c d e f m rows led st (zF (bh q)) (zF (aw m (.fork ps))) o11 o12 o13) xV=some (.nx (mE a b c d e f m rows led (cB q 0 ps++st) (zF (bh q)) (zF (aw m (.fork ps))) o11 o12 o13')):=by
 obtain⟨Z',h,o13',rfl⟩:=rD (call:=call) (tg:=.one 13) (body:=[.app 8 (.tup [(.bin .add V9 (.tup [mM])),(.ix (.ix iW (kI 1)) mM)])])
  (λi Z=>∃o:Option R,Z=mE a b c d e f m rows led ((cB q 0 ps).drop (ps.length - i)++st) (zF (bh q)) (zF (aw m (.fork ps))) o11 o12 o) ps.length (λi=>.int ((ps.length:Int) - 1 - (i:Nat)))
  (mE a b c d e f m rows led st (zF (bh q)) (zF (aw m (.fork ps))) o11 o12 o13) ⟨o13,by rw [Nat.sub_zero,pf (by rw [nS];exact fT _)];rfl⟩ (by
   rintro i Z hi ⟨o,rfl⟩
   have hj:ps.length - 1 - i<ps.length:=by omega
   have e1:((ps.length:Int) - 1 - (i:Nat))=((ps.length - 1 - i:Nat):Int):=by omega
   have hps:ps[ps.length - 1 - i]?=some ps[ps.length - 1 - i]:=kP hj
   have hk:=BE q 0 (ps.length - 1 - i) ps
   rw [hps,iq] at hk
   have hdr:(cB q 0 ps).drop (ps.length - (i+1))=(q++[((ps.length - 1 - i:Nat):Int)],ps[ps.length - 1 - i])::(cB q 0 ps).drop (ps.length - i):=by
    rw [show ps.length - (i+1)=ps.length - 1 - i by omega,qLp hk,show ps.length - 1 - i+1=ps.length - i by omega]
   have hix:aH (.tup (ps.map (aw m))) (.int ((ps.length - 1 - i:Nat):Int))=zF (aw m ps[ps.length - 1 - i]):=by
    rw [zt,u9,iu,hps]
    rfl
   have ha:=vc q (ps.length - 1 - i) hq
   refine⟨mE a b c d e f m rows led ((cB q 0 ps).drop (ps.length - i)++st) (zF (bh q)) (zF (aw m (.fork ps))) o11 o12 (zF (.int ((ps.length:Int) - 1 - (i:Nat)))),_,rfl,?_,zF (.int ((ps.length:Int) - 1 - (i:Nat))),rfl⟩
   rw [hdr]
   refine km (false,k9 m (q++[((ps.length - 1 - i:Nat):Int)],ps[ps.length - 1 - i])) ?_ rfl (j9 (by
    have l1:=nS q 0 ps
    rw [oZ,bA,dF,kO];omega)) ?_
   ·rw [e1]
    have g2:=yM m ps
    simp [ha,g2,hix,lj,jT]
    rfl
   ·rw [sC]
    unfold mE
    rw [eB,mZ]
    rfl)
 rw [Nat.sub_self,List.drop_zero] at h
 refine⟨o13',qKh (n:=ps.length) ?_ (by omega) h rfl⟩
 have g2:=yM m ps
 have l1:(((ps.map (aw m)).length:Nat):Int)=(ps.length:Int):=by rw [bA]
 simp [g2,l1]
theorem qM8 (m:Nat) (w:Wt) (t z:Int) (g:Nat->P2) (due:List Rx) (q:List Int) (p:Tr) (st:List Sk) (rows:List Rw) (led:List Rx) (o9 o10 o11 o12 o13:Option R)
  (C63:∃b,call 63 [aw m p]=some (b,.lst ((aC p).map (av m))))
  (C75:call 75 [.lst ((aC p).map (av m)),aD m w,.int t,af m g]=zT (.lst ((gA m t w g (aC p)).map ar)))
  (C76:∃x:Str,call 76 [.lst ((gA m t w g (aC p)).map ar),.lst (due.map ar),.int z,.int ((rows.map aI).length:Int)]=zF (.str x))
  (hl:led.length+(aC p).length<=1000) (hr:rows.length<=5000) (hq:q.length<=1000) (hp:nd p<=5000) (hs:st.length<=5000) :
  ∃(x:Str) (led2:List Rx) (p9 p10 p11 p12 p13:Option R),led2.length+(aN (aR (eR x q p st))).length<=led.length+(aC p).length+(aN (aR st)).length /\
    ae call (mE a (zF (aD m w)) (zF (.int t)) (zF (af m g)) (zF (.lst (due.map ar))) (zF (.int z)) m rows led ((q,p)::st) o9 o10 o11 o12 o13) zbN =
      some (.nx (mE a (zF (aD m w)) (zF (.int t)) (zF (af m g)) (zF (.lst (due.map ar))) (zF (.int z)) m (rows++[(q,x)]) led2 (eR x q p st) p9 p10 p11 p12 p13)):=by
 obtain⟨b',C63⟩:=C63
 obtain⟨x,C76⟩:=C76
 have hpop:(((q,p)::st).map (k9 m)).reverse=(st.map (k9 m)).reverse++[k9 m (q,p)]:=by simp
 have hrow:(rows++[(q,x)]).map aI=rows.map aI++[aI (q,x)]:=by rw [fh];rfl
 have hrl:(gA m t w g (aC p)).length<=(aC p).length:=by
  unfold gA
  rw [rG,bA]
  exact yg _ _
 generalize hR:gA m t w g (aC p)=R0 at C75 C76 hrl
 have pre:∀y,ae call (mE a (zF (aD m w)) (zF (.int t)) (zF (af m g)) (zF (.lst (due.map ar))) (zF (.int z)) m (rows++[(q,x)]) led st (zF (bh q)) (zF (aw m p)) (zF (.lst (R0.map ar))) (zF (.str x)) o13) (zbN.drop 4)=y ->
   ae call (mE a (zF (aD m w)) (zF (.int t)) (zF (af m g)) (zF (.lst (due.map ar))) (zF (.int z)) m rows led ((q,p)::st) o9 o10 o11 o12 o13) zbN=y:=by
  intro y hz
  unfold mE
  rw [hpop]
  refine qPZ rfl rfl ?_
  refine ay (true,.lst (R0.map ar)) (by simp [C63,C75]) ?_
  refine ay _ C76 ?_
  refine km _ rfl rfl (j9 (by rw [bA];omega)) ?_
  rw [<-hz]
  unfold mE
  rw [hrow]
  rfl
 have cO:∀(led:List Rx) (st:List Sk) (o:Option R),aa call (mE a (zF (aD m w)) (zF (.int t)) (zF (af m g)) (zF (.lst (due.map ar))) (zF (.int z)) m (rows++[(q,x)]) led st (zF (bh q)) (zF (aw m p)) (zF (.lst (R0.map ar))) (zF (.str x)) o) (.cmp .eq iV (.k (tx "open")))=zF (.bl (decide (x=dD))):=λ_ _ _=>bX rfl rfl (lK x "open")
 by_cases hx:x=dD
 ·rw [Qk hx] at cO
  cases p with
  | leaf ts =>
   have gL:=qU8 m ts
   have ha:=A6 led R0 (by omega)
   refine⟨x,led++R0,zF (bh q),zF (aw m (.leaf ts)),zF (.lst (R0.map ar)),zF (.str x),o13,?_,pre _ ?_⟩
   ·rw [dF]
    show _+(aN (aR st)).length<=_
    omega
   ·refine fY (Z':=mE a (zF (aD m w)) (zF (.int t)) (zF (af m g)) (zF (.lst (due.map ar))) (zF (.int z)) m (rows++[(q,x)]) (led++R0) st (zF (bh q)) (zF (aw m (.leaf ts))) (zF (.lst (R0.map ar))) (zF (.str x)) o13) (hV (cO _ _ _) (bX rfl rfl rfl)) ?_ ?_
    ·exact ay _ (lF rfl rfl ha) rfl
    ·exact aq (hV (cO _ _ _) (bX rfl rfl rfl)) rfl
  | fork ps =>
   have gF:=qU9 m ps
   have hnd:nd (.fork ps)=bw ps+1:=by rw [nd]
   have hln:=nU ps
   obtain⟨o13',hpu⟩:=qPJ (call:=call) (a:=a) (b:=zF (aD m w)) (c:=zF (.int t)) (d:=zF (af m g)) (e:=zF (.lst (due.map ar))) (f:=zF (.int z)) m q hq ps (by omega) (rows++[(q,x)]) led st hs (zF (.lst (R0.map ar))) (zF (.str x)) o13
   have hps:eR x q (.fork ps) st=cB q 0 ps++st:=Ql hx
   refine⟨x,led,zF (bh q),zF (aw m (.fork ps)),zF (.lst (R0.map ar)),zF (.str x),o13',?_,pre _ ?_⟩
   ·rw [hps,rp,nQ,iS,dF,aC]
    omega
   ·refine aq (hV (cO _ _ _) (bX rfl rfl rfl)) ?_
    rw [hps]
    exact fY (hV (cO _ _ _) (bX rfl rfl rfl)) hpu rfl
 ·rw [Qj hx] at cO
  have hps:eR x q p st=st:=by
   cases p with
   | leaf ts=>rfl
   | fork ps=>exact Qm hx
  exact⟨x,led,zF (bh q),zF (aw m p),zF (.lst (R0.map ar)),zF (.str x),o13,by rw [hps];omega,by rw [hps];exact pre _ (aq (jt (cO _ _ _)) (aq (jt (cO _ _ _)) rfl))⟩
theorem qPL (m:Nat) (w:Wt) (t z:Int) (g:Nat->P2) (due:List Rx) (p:Tr) (hn:nd p<=4000) (hh:hg p<=8) (hu:(aC p).length<64)
  (C63:∀q:Tr,hg q<=8->(aC q).length<=1000->∃b,call 63 [aw m q]=some (b,.lst ((aC q).map (av m))))
  (C75:∀ts:List Th,ts.length<64->(∀u∈ts,u∈aC p)->call 75 [.lst (ts.map (av m)),aD m w,.int t,af m g]=zT (.lst ((gA m t w g ts).map ar)))
  (C76:∀(rs:List Rx) (k:Nat),k<=9000->∃x:Str,call 76 [.lst (rs.map ar),.lst (due.map ar),.int z,.int (k:Int)]=zF (.str x)) :
  ∃(rows:List Rw) (led:List Rx),rows≠[]/\rows.length<=4000/\led.length<=(aC p).length/\(∀r∈rows,r.1.length<=1000)/\ae call [zF (aw m p),zF (aD m w),zF (.int t),zF (af m g),zF (.lst (due.map ar)),zF (.int z),none,none,none,none,none,none,none,none] f_law_made_up.body=some (.rt (false,.tup [.lst (rows.map aI),.lst (led.map ar)])):=by
 let E:=λrows led st o9 o10 o11 o12 o13=>mE (zF (aw m p)) (zF (aD m w)) (zF (.int t)) (zF (af m g)) (zF (.lst (due.map ar))) (zF (.int z)) m rows led st o9 o10 o11 o12 o13
 have hcond:∀(st:List Sk) (rows:List Rw) (led:List Rx) (o9 o10 o11 o12 o13:Option R),aa call (E rows led st o9 o10 o11 o12 o13) (.cmp .ne V8 (.lst []))=zF (.bl (!st.isEmpty)):=by
  intro st rows led o9 o10 o11 o12 o13
  have h:=bX (call:=call) (Z:=E rows led st o9 o10 o11 o12 o13) (a:=.v 8) (b:=.lst []) rfl rfl (qQ ((st.map (k9 m)).reverse))
  rw [List.isEmpty_reverse,sW] at h
  exact h
 obtain⟨k',Z',hwh,⟨st,rows,led,o9,o10,o11,o12,o13,hb,h1,h2,h3,h4,h5,h6,rfl⟩,x,hx⟩:=qV (c:=.cmp .ne V8 (.lst [])) (body:=zbN)
  (λk Z=>∃(st:List Sk) (rows:List Rw) (led:List Rx) (o9 o10 o11 o12 o13:Option R),k=bw (aR st)/\(rows=[]->st≠[])/\rows.length+bw (aR st)<=4000/\led.length+(aN (aR st)).length<=(aC p).length/\(∀y∈st,y.1.length+hg y.2<=8)/\(∀u∈aN (aR st),u∈aC p)/\(∀r∈rows,r.1.length<=1000)/\Z=E rows led st o9 o10 o11 o12 o13) (by
   rintro k Z ⟨st,rows,led,o9,o10,o11,o12,o13,rfl,h1,h2,h3,h4,h5,h6,rfl⟩
   have hv:=hcond st rows led o9 o10 o11 o12 o13
   cases st with
   | nil=>exact .inl ⟨false,hv⟩
   | cons y st =>
    obtain⟨q,r⟩:=y
    have e1:bw (aR ((q,r)::st))=nd r+bw (aR st):=rfl
    have e2:aN (aR ((q,r)::st))=aC r++aN (aR st):=rfl
    have e3:=nU (aR st)
    have e4:(aR st).length=st.length:=bA _
    have e5:=h4 (q,r) ir
    change q.length+hg r<=8 at e5
    rw [e2,dF] at h3
    obtain⟨x,led2,p9,p10,p11,p12,p13,hl2,hbd⟩:=qM8 (call:=call) (a:=zF (aw m p)) m w t z g due q r st rows led o9 o10 o11 o12 o13 (C63 r (by omega) (by omega))
     (C75 (aC r) (by omega) λu hu=>h5 u (by rw [e2];exact sx _ hu)) (C76 _ (rows.map aI).length (by rw [bA];omega)) (by omega) (by omega) (by omega) (by omega) (by omega)
    have n1:=AQ x q r st
    refine .inr ⟨false,hv,_,hbd,_,?_,eR x q r st,rows++[(q,x)],led2,p9,p10,p11,p12,p13,rfl,λz=>?_,?_,by omega,AO h4,λu hu=>?_,λv hv=>?_,rfl⟩
    ·rw [e1];omega
    ·simp at z
    ·rw [dF,mS];omega
    ·have:=Bq x q r st
     refine h5 u ?_
     rw [e2,<-this]
     exact pj _ hu
    ·rcases zBv.mp hv with hv|hv
     ·exact h6 v hv
     ·rw [zBu.mp hv]
      show q.length<=1000
      omega) fR (nd p) (E [] [] [([],p)] none none none none none) (uy (by omega))
   ⟨[([],p)],[],[],none,none,none,none,none,rfl,by simp,by show 0+(nd p+0)<=4000;omega,by show 0+(aC p++[]).length<=_;rw [eV];omega,λy hy=>by rw [zBu.mp hy];show 0+hg p<=8;omega,λu hu=>by change u∈aC p++[] at hu;rw [eV] at hu;exact hu,by simp,rfl⟩
 rw [hcond] at hx
 have hx:(!st.isEmpty)=false:=by injection hx with hx;injection hx with _ hx;injection hx
 have hst:st=[]:=by
  cases st with
  | nil=>rfl
  | cons y st=>cases hx
 subst hst
 have hll:led.length<=(aC p).length:=by omega
 refine⟨rows,cP led,λz=>h1 z rfl,by omega,by rw [rG];exact hll,h6,?_⟩
 refine ay _ rfl ?_
 refine ay _ rfl ?_
 refine ay _ rfl ?_
 refine uJ hwh ?_
 change ae call _ (.frz [6]::[.ret (.tup [V6,(.bi .sorted [V7])])])=_
 rw [AM]
 have hs:=uI led (by omega)
 exact ao (by
  show aa call [zF (aw m p),zF (aD m w),zF (.int t),zF (af m g),zF (.lst (due.map ar)),zF (.int z),zF (.lst (rows.map aI)),zF (.lst (led.map ar)),zT (.lst []),o9,o10,o11,o12,o13] (.tup [V6,(.bi .sorted [V7])])=_
  have l2:2<=lim:=bf (by decide)
  simp [hs,l2]) rfl
end
end Dw.T
namespace Dw.T
open Dw PySem
theorem lR {α:Type}(f:α->D) (l:List α) (lo hi:Option Int):∃l':List α,dU (l.map f) lo hi=l'.map f/\l'.length<=l.length:=
 ⟨(l.drop (cutAt (l.map f).length 0 lo)).take (cutAt (l.map f).length (l.map f).length hi - cutAt (l.map f).length 0 lo),by rw [oU,oV];rfl,by rw [iw,kO];omega⟩
theorem nW (a b:List Rw) (h:a.length+b.length<=100000):d5 .add (.lst (a.map aI)) (.lst (b.map aI))=zT (.lst ((a++b).map aI)):=by
 show (if (a.map aI).length+(b.map aI).length<=lim then zT (D.lst (a.map aI++b.map aI)) else none)=_
 rw [Ql (bf (by rw [bA,bA];omega)),fh]
theorem DR (r:Rw):aH (aI r) (.int 0)=zF (bh r.1):=rfl
theorem pr1 (r:Rw):aH (aI r) (.int 1)=zF (.str r.2):=rfl
section
variable {call:Nat->List D->Option R}{Z:En}
theorem Ao {o:BOp}{a b:C}{r:R}(h:aa call Z (.bin o a b)=some r):pk Z (.bin o a b) (aa call Z (.bin o a b))=some r.2:=by rw [h];rfl
theorem nk {a b mid:C}{x y z:List Rw}(ha:pk Z a (aa call Z a)=some (.lst (x.map aI))) (hm:pk Z mid (aa call Z mid)=some (.lst (y.map aI))) (hb:pk Z b (aa call Z b)=some (.lst (z.map aI))) (h:x.length+y.length+z.length<=100000):aa call Z (.bin .add (.bin .add a mid) b)=zT (.lst (((x++y)++z).map aI)):=
 lF (Ao (lF ha hm (nW x y (by omega)))) hb (nW _ z (by rw [dF];omega))
theorem qJ9 (rows:List Rw) (c:Int) (hc:ck c) (dr:Dr call) (h0:rows≠[]) (hl:rows.length<=4000) (hp:∀r∈rows,r.1.length<=1000) :
  ∃(b:Bool) (rs:List Rw),ae call [zF (.lst (rows.map aI)),zF (.int c),none,none,none,none,none,none,none] f_law_spoilt.body=some (.rt (b,.lst (rs.map aI))):=by
 have hl0:0<rows.length:=List.length_pos_iff.mpr h0
 have l1:(rows.map aI).length=rows.length:=bA _
 have h1:=dr c 301 14 hc (by decide) (by decide)
 generalize aT c 301 14=way at h1
 have h2:=dr c 302 ((rows.map aI).length:Int) hc (by decide) ⟨by omega,by omega⟩
 have b2:=bL c 302 ((rows.map aI).length:Int) (by omega)
 generalize aT c 302 ((rows.map aI).length:Int)=at_ at h2 b2
 obtain⟨j,rfl⟩:=i4 b2.1
 have hj:j<rows.length:=by omega
 have hrow:aH (.lst (rows.map aI)) (.int (j:Int))=zF (aI rows[j]):=kG _ j _ (by rw [iu,kP hj];rfl) rfl
 have hrp:=hp rows[j] (gR hj)
 generalize rows[j]=row at hrow hrp
 obtain⟨ah,ea,la⟩:=lR aI rows none (some (j:Int))
 obtain⟨be,eb,lb⟩:=lR aI rows (some ((j:Int)+1)) none
 obtain⟨b1,eb1,lb1⟩:=lR aI be none (some 1)
 obtain⟨b2',eb2,lb2⟩:=lR aI be (some 1) none
 have eq_i:∀x y:Int,dq .eq (.int x) (.int y)=zF (.bl (decide (x=y))):=λx y=>by show some (false,D.bl (x == y))=some (false,_);congr 3
 have cw:∀(k:Int) (r7 r8:Option R),aa call [zF (.lst (rows.map aI)),zF (.int c),zF (.int way),zF (.int (j:Int)),zF (aI row),zF (.lst (ah.map aI)),zF (.lst (be.map aI)),r7,r8] (.cmp .eq V2 (.k (.int k)))=zF (.bl (decide (way=k))):=λk _ _=>bX rfl rfl (eq_i way k)
 suffices hs:∃(b:Bool) (rs:List Rw),ae call [zF (.lst (rows.map aI)),zF (.int c),zF (.int way),zF (.int (j:Int)),zF (aI row),zF (.lst (ah.map aI)),zF (.lst (be.map aI)),none,none] (f_law_spoilt.body.drop 5)=some (.rt (b,.lst (rs.map aI))) by
  obtain⟨b,rs,hs⟩:=hs
  refine⟨b,rs,?_⟩
  refine ay _ h1 ?_
  refine ay _ h2 ?_
  refine ay _ hrow ?_
  refine ay (true,.lst (ah.map aI)) (by simp [ea]) ?_
  refine ay (true,.lst (be.map aI)) (by simp [eb]) ?_
  exact hs
 by_cases w0:way=0
 ·have h:=cw 0 none none
  rw [Qk w0] at h
  exact⟨true,ah++be,aU h (ao (lF rfl rfl (nW _ _ (by omega))) rfl) rfl⟩
 have s0:=cw 0 none none
 rw [Qj w0] at s0
 by_cases w1:way=1
 ·have h:=cw 1 none none
  rw [Qk w1] at h
  exact⟨true,(ah++[row,row])++be,aq s0 (aU h (ao (nk rfl rfl rfl (by show _+2+_<=_;omega)) rfl) rfl)⟩
 have s1:=cw 1 none none
 rw [Qj w1] at s1
 by_cases w2:way=2
 ·have h:=cw 2 none none
  rw [Qk w2] at h
  refine⟨true,((ah++b1)++[row])++b2',aq s0 (aq s1 (aU h (ao ?_ rfl) rfl))⟩
  exact lF (Ao (nk rfl (by simp [eb1]) rfl (by show _+_+1<=_;omega))) (by simp [eb2]) (nW _ _ (by simp only [dF,mS];omega))
 have s2:=cw 2 none none
 rw [Qj w2] at s2
 by_cases w3:way=3
 ·have h:=cw 3 none none
  rw [Qk w3] at h
  have r3:=dr c 303 4 hc (by decide) (by decide)
  have b3:=bL c 303 4 (by decide)
  generalize aT c 303 4=d at r3 b3
  obtain⟨i,rfl⟩:=i4 b3.1
  obtain⟨x,hx⟩:∃x:Str,([tx "whole",tx "",tx "Open",tx "none"]:List D)[i]?=some (.str x):=by
   match i,(show i<4 by omega) with
   | 0,_=>exact⟨_,rfl⟩
   | 1,_=>exact⟨_,rfl⟩
   | 2,_=>exact⟨_,rfl⟩
   | 3,_=>exact⟨_,rfl⟩
  have hix:aH (.lst [tx "whole",tx "",tx "Open",tx "none"]) (.int (i:Int))=zF (.str x):=kG _ i _ hx rfl
  have l4:4<=lim:=bf (by decide)
  refine⟨true,(ah++[(row.1,x)])++be,aq s0 (aq s1 (aq s2 (aU h ?_ rfl)))⟩
  refine ay _ (jQ rfl (by simp [r3]) hix) ?_
  exact ao (nk rfl rfl rfl (by show _+1+_<=_;omega)) rfl
 have s3:=cw 3 none none
 rw [Qj w3] at s3
 by_cases w4:way=4
 ·have h:=cw 4 none none
  rw [Qk w4] at h
  have r3:=dr c 304 4 hc (by decide) (by decide)
  have b3:=bL c 304 4 (by decide)
  generalize aT c 304 4=d at r3 b3
  obtain⟨i,rfl⟩:=i4 b3.1
  have ha:=vc row.1 i hrp
  refine⟨true,(ah++[(row.1++[(i:Int)],row.2)])++be,aq s0 (aq s1 (aq s2 (aq s3 (aU h ?_ rfl))))⟩
  refine ay (false,bh (row.1++[(i:Int)])) (by simp only [eO,pk,fI,ax,cm,bQ,bP,bE,cj,cQ,bS,DR,eQ,dB,fe,ff,ag,ei,eZ,r3,eh,cI,eC,Nat.reduceAdd,lj,↓reduceIte,ha]) ?_
  exact ao (nk rfl rfl rfl (by show _+1+_<=_;omega)) rfl
 have s4:=cw 4 none none
 rw [Qj w4] at s4
 by_cases w5:way=5
 ·have h:=cw 5 none none
  rw [Qk w5] at h
  have r3:=dr c 305 3 hc (by decide) (by decide)
  have r4:=dr c 306 3 hc (by decide) (by decide)
  have b4:=bL c 306 3 (by decide)
  generalize aT c 305 3=d at r3
  generalize aT c 306 3=e at r4 b4
  have hix:=oy (tx "open") (tx "far") (tx "shut") e b4
  obtain⟨x,hx⟩:∃x:Str,(if e=0 then tx "open" else if e=1 then tx "far" else tx "shut")=.str x:=by
   split
   ·exact⟨_,rfl⟩
   ·split<;>exact⟨_,rfl⟩
  rw [hx] at hix
  have hix:(gf [tx "open",tx "far",tx "shut"] e).map (λx=>(false,x))=zF (.str x):=hix
  have l3:3<=lim:=bf (by decide)
  refine⟨true,rows++[([d - 1],x)],aq s0 (aq s1 (aq s2 (aq s3 (aq s4 (aU h ?_ rfl)))))⟩
  refine ay _ (by simp only [eQ,dB,eO,pk,fe,ff,ag,ax,cm,bQ,bP,bE,ei,cQ,bS,eZ,r3,rM,eh,cI,eC,Nat.reduceAdd,lj,↓reduceIte];rfl) ?_
  exact ao (lF rfl (by simp only [pk,gz,i6,kQ,kR,lO,dB,eQ,qr,jk,ax,cm,bQ,bP,fI,cQ,eh,cI,eC,Nat.reduceAdd,l3,↓reduceIte,bS,fe,ff,ag,bE,ei,eZ,r4,lB,hix,jT,lj,eB,sy];rfl) (nW _ _ (by show _+1<=_;omega))) rfl
 have s5:=cw 5 none none
 rw [Qj w5] at s5
 by_cases w6:way=6
 ·have h:=cw 6 none none
  rw [Qk w6] at h
  obtain⟨q,hq,_⟩:=lR D.int row.1 none (some (-1))
  have hsl:pQ none (some (-1)) (bh row.1)=zF (bh q):=by
   show zF (D.tup (dU (row.1.map .int) none (some (-1))))=_
   rw [hq]
   rfl
  refine⟨true,(ah++[(q,row.2)])++be,aq s0 (aq s1 (aq s2 (aq s3 (aq s4 (aq s5 (aU h ?_ rfl))))))⟩
  exact ao (nk rfl (by simp only [pk,lO,dB,eQ,nF,fI,ax,cm,bQ,bP,bE,cj,cQ,bS,DR,vj,og,qPv,qKY,jc,hsl,pr1,eh,cI,eC,Nat.reduceAdd,jT,↓reduceIte,lj,eB,sy];rfl) rfl (by show _+1+_<=_;omega)) rfl
 have s6:=cw 6 none none
 rw [Qj w6] at s6
 exact⟨false,rows,aq s0 (aq s1 (aq s2 (aq s3 (aq s4 (aq s5 (aq s6 (ao rfl rfl)))))))⟩
end
end Dw.T
namespace Dw.T
open Dw PySem
theorem qQZ (a b:List Rx):dq .ne (.lst (a.map ar)) (.lst (b.map ar))=zF (.bl (!decide (a=b))):=by
 rw [rh,show bI 20 (.lst (a.map ar))=true from AW 18 a,show br (.lst (a.map ar))=true from lU a,show br (.lst (b.map ar))=true from lU b]
 show zF (D.bl (!fv _ _))=_
 rw [uD]
structure La (call:Nat->List D->Option R) (ns:List Int):Prop where
 cell:∀k:Nat,call 54 [.lst (ns.map .int),.int (k:Int)]=zF (.int (aW ns k))
 dr:Dr call
 scale:∀c,ck c->∃s,SclOk s/\call 56 [.int c]=zF (aO s)
 things:∀(cs:List Int) (m:Nat) (s:dE),cs.length<=60->(∀c∈cs,ck c)->m<=3->SclOk s->∃ts:List Th,(∀u∈ts,cg u)/\ts.length<=cs.length/\call 59 [.lst (cs.map .int),.int (m:Int),aO s]=zT (.lst (ts.map (av m)))
 shape:∀(m:Nat) (c:Int) (ts:List Th),ck c->ts.length<=60->∃p:Tr,aC p=ts/\nd p<=4000/\hg p<=8/\call 61 [.lst (ts.map (av m)),.int c]=zF (aw m p)
 page:∀(m:Nat) (p:Tr),hg p<=8->call 62 [aw m p]=zF (aB m p)
 plain:∀(c0:Int) (cs:List Int) (m:Nat) (s:dE),m<=3->SclOk s->(∀c∈c0::cs,ck c)->cs.length<=4->∃w,cT w/\eo w/\dp w<=8/\call 70 [.lst ((c0::cs).map .int),.int (m:Int),aO s]=zF (aD m w)
 box:∀(c:Int) (m:Nat) (s:dE),m<=3->ck c->SclOk s->∃f:Nat->P2,(∀j,cH (f j))/\call 68 [.int c,.int (m:Int),aO s]=zF (af m f)
 rows:∀(m:Nat) (w:Wt) (t:Int) (f:Nat->P2) (ts:List Th),m<=3->(0<=t/\t<=10^15)->dp w<=8->cT w->eo w->(∀j,cH (f j))->(∀u∈ts,cg u)->ts.length<64->call 75 [.lst (ts.map (av m)),aD m w,.int t,af m f]=zT (.lst ((gA m t w f ts).map ar))
 made:∀(m:Nat) (w:Wt) (f:Nat->P2) (due:List Rx) (t c:Int) (p:Tr),m<=3->(0<=t/\t<=10^15)->dp w<=8->cT w->eo w->(∀j,cH (f j))->ck c->(∀u∈aC p,cg u)->nd p<=4000->hg p<=8->(aC p).length<64 ->
  ∃(rows:List Rw) (led:List Rx),rows≠[]/\rows.length<=4000/\led.length<=(aC p).length/\(∀r∈rows,r.1.length<=1000)/\call 77 [aw m p,aD m w,.int t,af m f,.lst (due.map ar),.int c]=zF (.tup [.lst (rows.map aI),.lst (led.map ar)])
 spoilt:∀(rows:List Rw) (c:Int),ck c->rows≠[]->rows.length<=4000->(∀r∈rows,r.1.length<=1000)->∃(b:Bool) (rs:List Rw),call 78 [.lst (rows.map aI),.int c]=some (b,.lst (rs.map aI))
 near:∀(m:Nat) (t:Int) (wo:Option Wt) (a:Aq) (top:Tr) (rs:List Rw),0<m->(0<=t/\t<=10^15)->cT (wG wo)->dp (wG wo)<=8->(∀j,cH (a.bx j))->(∀u∈aC top,cg u)->(aC top).length<64->nd top<=4000->hg top<=8 ->
  call 53 [aB m top,af m a.bx,.int (a.mn:Int),.int t,wO m wo,.tup (a.rs.map ar),.tup (rs.map aI)]=zF (.bl (mj m t (wG wo) a top rs))
 want:∀(m:Nat) (w:Wt),dp w<=8->call 72 [aD m w]=zF (aE m w)
theorem uU (ns:List Int) (hh:∀i∈ns,2 * i.natAbs<fH) (k:Nat) (d:Int) (hd:d.natAbs<=2^60):ck (aW ns k+d):=by
 refine Aj ?_ d hd
 unfold aW
 cases e:ns[k]? with
 | none =>
  have:=uZ
  show 2 * (0:Int).natAbs<fH
  omega
 | some i=>exact hh i (mU e)
section
variable {call:Nat->List D->Option R}
abbrev xW (d0 d1 d2 d3 d4:Option R) (m:Nat) (p:Tr) (d6 d7:Option R) (wo:Option Wt) (f:Nat->P2) (t:Int) (mn:Nat) (due:List Rx) (d13:Option R) (rs:List Rw) (d15 d16 o17 o18:Option R):En:=[d0,d1,d2,d3,d4,zF (aw m p),d6,d7,zF (wO m wo),zF (af m f),zF (.int t),zF (.int (mn:Int)),zF (.lst (due.map ar)),d13,zF (.tup (rs.map aI)),d15,d16,o17,o18]
theorem qPM (m:Nat) (t:Int) (wo:Option Wt) (f:Nat->P2) (mn:Nat) (p:Tr) (rs:List Rw) (ans due:List Rx) (b:Bool) (e62:call 62 [aw m p]=zF (aB m p)) (e53:call 53 [aB m p,af m f,.int (mn:Int),.int t,wO m wo,.tup (ans.map ar),.tup (rs.map aI)]=zF (.bl b)) (hb:b=true->ans=due)
  (d0 d1 d2 d3 d4 d6 d7 d13 d15 d16 o18:Option R) :
  ae call (xW d0 d1 d2 d3 d4 m p d6 d7 wo f t mn due d13 rs d15 d16 (zF (.lst (ans.map ar))) o18) mO=some (.nx (xW d0 d1 d2 d3 d4 m p d6 d7 wo f t mn due d13 rs d15 d16 (zF (.lst (ans.map ar))) (zF (.bl b)))):=by
 refine ay (false,.bl b) (by simp [e62,e53]) ?_
 refine aq (x:=false) ?_ rfl
 refine jq (p:=false) (q:=false) (x:=false) rfl ?_
 have hne:=qQZ ans due
 cases b with
 | false=>exact jt (x:=false) rfl
 | true =>
  rw [Qk (hb rfl)] at hne
  exact hV (x:=false) rfl (bX rfl rfl hne)
abbrev yW (m:Nat) (ns:List Int) (s:dE) (ts:List Th) (p:Tr) (wo:Option Wt):En:=[zF (.lst (ns.map .int)),zF (.int (aW ns 0)),zF (aO s),zF (.int (m:Int)),zF (.lst (ts.map (av m))),zF (aw m p),zF (.int (aW ns 2)),zF (aD m (wG wo)),zF (wO m wo),none,none,none,none,none,none,none,none,none,none]
theorem AH (ns:List Int) (hh:∀i∈ns,2 * i.natAbs<fH) (A:La call ns) (m:Nat) (m2:2<=m) (m3:m<=3) (s:dE) (sk:SclOk s) (ts:List Th) (tk:∀u∈ts,cg u) (tl57:ts.length<=57) (p:Tr) (pu:aC p=ts) (pn:nd p<=4000) (ph:hg p<=8) (wo:Option Wt) (wk:cT (wG wo)) (wx:eo (wG wo)) (wd:dp (wG wo)<=8) :
  ae call (yW m ns s ts p wo) (f_law.body.drop 9)=some (.rt (false,.bl true)):=by
 have ok0:∀k,ck (aW ns k):=λk=>by have:=uU ns hh k 0 (by decide);rwa [Int.add_zero] at this
 have c3:call 54 [.lst (ns.map .int),.int 3]=zF (.int (aW ns 3)):=A.cell 3
 have c4:call 54 [.lst (ns.map .int),.int 4]=zF (.int (aW ns 4)):=A.cell 4
 have c5:call 54 [.lst (ns.map .int),.int 5]=zF (.int (aW ns 5)):=A.cell 5
 have e62:=A.page m p ph
 obtain⟨f,fb,e68⟩:=A.box (aW ns 3) m s m3 (ok0 3) sk
 have d94:=A.dr (aW ns 3) 94 s.2.2 (ok0 3) (by decide) (by have:=sk.c;omega)
 have b94:=bL (aW ns 3) 94 s.2.2 (by have:=sk.c;omega)
 generalize aT (aW ns 3) 94 s.2.2=t at d94 b94
 have ht:0<=t/\t<=10^15:=by have:=sk.c;omega
 have d99:=A.dr (aW ns 4) 99 13 (ok0 4) (by decide) (by decide)
 have b99:=bL (aW ns 4) 99 13 (by decide)
 generalize aT (aW ns 4) 99 13=mm at d99 b99
 obtain⟨mn,rfl⟩:=i4 b99.1
 have hud:∀u∈aC p,cg u:=by rw [pu];exact tk
 have hul:(aC p).length<64:=by rw [pu];omega
 have e75:=A.rows m (wG wo) t f ts m3 ht wd wk wx fb tk (by omega)
 generalize hD:(gA m t (wG wo) f ts).take mn=due
 have ct:dU ((gA m t (wG wo) f ts).map ar) none (some (mn:Int))=due.map ar:=by rw [qN,<-List.map_take,hD]
 obtain⟨rows,led,r0,r1,r2,r3,e77⟩:=A.made m (wG wo) f due t (aW ns 4) p m3 ht wd wk wx fb (ok0 4) hud pn ph hul
 obtain⟨bq,rs,e78⟩:=A.spoilt rows (aW ns 5) (ok0 5) r0 r1 r3
 have cl:dU (led.map ar) none (some (mn:Int))=(led.take mn).map ar:=by rw [qN,<-List.map_take]
 have ll:(led.take mn).length<=100:=by rw [iw];omega
 generalize led.take mn=L1 at cl ll
 have d96:=A.dr (aW ns 5) 96 (10^30) (ok0 5) (by decide) (by decide)
 have d97:=A.dr (aW ns 5) 97 (10^18) (ok0 5) (by decide) (by decide)
 generalize aT (aW ns 5) 96 (10^30)=mo1 at d96
 generalize aT (aW ns 5) 97 (10^18)=mo2 at d97
 have l2:2<=lim:=bf (by decide)
 have l4:4<=lim:=bf (by decide)
 have l1:1<=lim:=bf (by decide)
 refine ay (false,af m f) (by simp [c3,e68]) ?_
 refine ay (false,.int t) (by simp [c3,gv,d94]) ?_
 refine ay (false,.int (mn:Int)) (by simp [c4,d99]) ?_
 refine ay (true,.lst (due.map ar)) (by simp [e75,ct]) ?_
 refine ay (false,.tup [.lst (rows.map aI),.lst (led.map ar)]) (by simp [c4,e77]) ?_
 refine ay (false,.tup (rs.map aI)) (by simp [c5,e78,zu]) ?_
 refine ay (true,.lst (L1.map ar)) (by simp [qTB,cl]) ?_
 refine ay (false,.int (aW ns 5)) (by simp [c5]) ?_
 have p30:fL 10 30=true:=by decide
 have p18:fL 10 18=true:=by decide
 have t30:((10:Int)^(30:Int).toNat)=10^30:=rfl
 have t18:((10:Int)^(18:Int).toNat)=10^18:=rfl
 have hadd:d5 .add (.lst (L1.map ar)) (.lst [.tup [.int mo1,.int mo2]])=zT (.lst ((L1++[(mo1,mo2)]).map ar)):=A6 L1 [(mo1,mo2)] (by simp;omega)
 have d96:call 55 [.int (aW ns 5),.int 96,.int 1000000000000000000000000000000]=zF (.int mo1):=d96
 have d97:call 55 [.int (aW ns 5),.int 97,.int 1000000000000000000]=zF (.int mo2):=d97
 refine ay (true,.lst ((L1++[(mo1,mo2)]).map ar)) (by simp [p30,p18,d96,d97,l1,l2,hadd]) ?_
 show ae call (xW (zF (.lst (ns.map .int))) (zF (.int (aW ns 0))) (zF (aO s)) (zF (.int (m:Int))) (zF (.lst (ts.map (av m)))) m p (zF (.int (aW ns 5))) (zF (aD m (wG wo))) wo f t mn due (zF (.tup [.lst (rows.map aI),.lst (led.map ar)])) rs (zF (.lst (L1.map ar))) (zF (.lst ((L1++[(mo1,mo2)]).map ar))) none none) _=_
 generalize L1++[(mo1,mo2)]=L2
 generalize zF (.lst (ns.map .int))=g0,zF (.int (aW ns 0))=g1,zF (aO s)=g2,zF (.int (m:Int))=g3,zF (.lst (ts.map (av m)))=g4,zF (.int (aW ns 5))=g6,zF (aD m (wG wo))=g7,zF (.tup [.lst (rows.map aI),.lst (led.map ar)])=g13
 obtain⟨L3,hL3,_⟩:=lR ar L1 none (some (-1))
 obtain⟨Z',hf,o17,o18,rfl⟩:=jC (call:=call) (tg:=.one 17) (body:=mO)
  (λ_ Z=>∃o17 o18:Option R,Z=xW g0 g1 g2 g3 g4 m p g6 g7 wo f t mn due g13 rs (zF (.lst (L1.map ar))) (zF (.lst (L2.map ar))) o17 o18)
  ([due,L1,L3,L2].map λl=>.lst (l.map ar)) 0 (xW g0 g1 g2 g3 g4 m p g6 g7 wo f t mn due g13 rs (zF (.lst (L1.map ar))) (zF (.lst (L2.map ar))) none none) ⟨none,none,rfl⟩ (by
   rintro j d Z hj ⟨o17,o18,rfl⟩
   rw [iu] at hj
   obtain⟨ans,_,rfl⟩:=zAo.mp hj
   have e53:=A.near m t wo ⟨f,mn,ans⟩ p rs (by omega) ht wk wd fb hud hul pn ph
   refine⟨_,_,rfl,qPM m t wo f mn p rs ans due _ e62 e53 (λhb=>?_) _ _ _ _ _ _ _ _ _ _ _,_,_,rfl⟩
   have:=qIr m t ht.1 (wG wo) wk ⟨f,mn,ans⟩ p rs hud hb
   rw [pu] at this
   exact this.trans hD)
 have hz:∀(env env':En),bC call mO (.one 17) ([due,L1,L3,L2].map λl=>.lst (l.map ar)) env=some (.nx env')->aa call env (.lst [iV,kL,(.sl kL none (some (.neg (kI 1)))),xO])=some (true,.lst ([due,L1,L3,L2].map λl=>.lst (l.map ar)))->ae call env [.forS (.one 17) (.lst [iV,kL,(.sl kL none (some (.neg (kI 1)))),xO]) mO,.ret (.k (.bl true))]=some (.rt (false,.bl true)):=λenv env' h1 h2=>ki h2 rfl h1 (ao rfl rfl)
 refine hz _ _ hf ?_
 have hs3:pQ none (some (-1)) (.lst (L1.map ar))=zT (.lst (L3.map ar)):=by
  show zT (D.lst (dU (L1.map ar) none (some (-1))))=_
  rw [hL3]
 simp [hs3,l4]
theorem qSN (ns:List Int) (hl:ns.length<=63) (hh:∀i∈ns,2 * i.natAbs<fH) (A:La call ns):ae call [zF (.lst (ns.map .int)),none,none,none,none,none,none,none,none,none,none,none,none,none,none,none,none,none,none] f_law.body=some (.rt (false,.bl true)):=by
 have ok0:∀k,ck (aW ns k):=λk=>by have:=uU ns hh k 0 (by decide);rwa [Int.add_zero] at this
 have c0:call 54 [.lst (ns.map .int),.int 0]=zF (.int (aW ns 0)):=A.cell 0
 have c1:call 54 [.lst (ns.map .int),.int 1]=zF (.int (aW ns 1)):=A.cell 1
 have c2:call 54 [.lst (ns.map .int),.int 2]=zF (.int (aW ns 2)):=A.cell 2
 obtain⟨s,sk,e56⟩:=A.scale _ (ok0 0)
 have d91:=A.dr (aW ns 0) 91 2 (ok0 0) (by decide) (by decide)
 have b91:=bL (aW ns 0) 91 2 (by decide)
 generalize aT (aW ns 0) 91 2=dm at d91 b91
 obtain⟨m,hm⟩:∃m:Nat,(2+dm)=(m:Int):=⟨(2+dm).toNat,by omega⟩
 have m2:2<=m:=by omega
 have m3:m<=3:=by omega
 have hcut:dU (ns.map .int) (some 6) (some 66)=((ns.drop 6).take 60).map .int:=qLr ns 6 66 (by decide)
 obtain⟨ts,tk,tl',e59⟩:=A.things ((ns.drop 6).take 60) m s (by rw [iw];omega) (λc hc=>by
  have:=Aj (hh c (List.mem_of_mem_drop (List.mem_of_mem_take hc))) 0 (by decide)
  rwa [Int.add_zero] at this) m3 sk
 have tl57:ts.length<=57:=by rw [iw,kO] at tl';omega
 obtain⟨p,pu,pn,ph,e61⟩:=A.shape m (aW ns 1) ts (ok0 1) (by omega)
 have d93:=A.dr (aW ns 2) 93 3 (ok0 2) (by decide) (by decide)
 have b93:=bL (aW ns 2) 93 3 (by decide)
 generalize aT (aW ns 2) 93 3=dk at d93 b93
 obtain⟨k,rfl⟩:=i4 b93.1
 have ek:(1+(k:Int))=((k+1:Nat):Int):=by omega
 generalize hL:((List.range (k+1)).map λi:Nat=>aW ns 2+113 * (i:Int))=L
 have hLl:L.length=k+1:=by rw [<-hL];simp
 have hLo:∀c∈L,ck c:=λc hc=>by
  rw [<-hL] at hc
  obtain⟨i,hi,rfl⟩:=yaO.mp hc
  have:=zBa.mp hi
  exact uU ns hh 2 _ (by omega)
 have mu:∀x:Int,dH 113 x=true:=λx=>eW 113 x (by decide)
 obtain⟨a0,as,rfl⟩:=List.exists_cons_of_ne_nil (l:=L) (by intro z;rw [z] at hLl;simp at hLl)
 obtain⟨w,wk,wx,wd,e70⟩:=A.plain a0 as m s m3 sk hLo (by rw [cI] at hLl;omega)
 have e72:=A.want m w wd
 have d95:=A.dr (aW ns 2) 95 3 (ok0 2) (by decide) (by decide)
 generalize aT (aW ns 2) 95 3=dw at d95
 refine ay (false,.int (aW ns 0)) (by simp [c0]) ?_
 refine ay (false,aO s) (by simp [e56]) ?_
 refine ay (false,.int (m:Int)) (by simp [d91,hm]) ?_
 refine ay (true,.lst (ts.map (av m))) (by simp only [gz,i6,kQ,kR,fe,ff,ag,nF,pk,ax,bQ,bP,bE,cj,og,cQ,bS,jc,qI,hcut,cm,ei,eZ,e59]) ?_
 refine ay (false,aw m p) (by simp [c1,e61]) ?_
 refine ay (false,.int (aW ns 2)) (by simp [c2]) ?_
 refine ay (false,aD m (.atm .any)) rfl ?_
 refine ay (false,.non) rfl ?_
 show ae call (yW m ns s ts p none) _=_
 have cW:aa call (yW m ns s ts p none) (.cmp .gt (.call 55 [V6,(kI 95),(kI 3)]) (kI 0))=zF (.bl (decide (0<dw))):=by simp [d95]
 by_cases hd:0<dw
 ·rw [Qk hd] at cW
  refine fY cW (Z':=yW m ns s ts p (some w)) ?_ (AH ns hh A m m2 m3 s sk ts tk tl57 p pu pn ph (some w) wk wx wd)
  have hc:aa call (yW m ns s ts p none) (.compR (.bin .add V1 (.bin .mul (kI 113) V0)) 1 [6] (.one 0) [(.bin .add (kI 1) (.call 55 [V6,(kI 93),(kI 3)]))])=zT (.lst ((a0::as).map .int)):=by
   refine rj (its:=(List.range (k+1)).map λi=>.int (i:Nat)) (by simp [d93,ek]) (AS _ (by omega)) (bf (by rw [bA,mR];omega)) rfl ?_
   rw [<-hL,oY]
   exact eN call _ (λi:Nat=>D.int (i:Nat)) (λi=>.int (aW ns 2+113 * (i:Int))) _ λi _=>⟨_,false,rfl,by simp [mu]⟩
  refine ay (false,aD m w) (by simp only [fe,ff,ag,hc,ei,ax,cm,bQ,bP,bE,bS,eZ,e70]) ?_
  exact ay (false,aE m w) (by simp [e72]) rfl
 ·rw [Qj hd] at cW
  exact aq cW (AH ns hh A m m2 m3 s sk ts tk tl57 p pu pn ph none trivial trivial (by decide))
end
theorem gM (n:Nat):Dr (aG tab (n+1)):=λc k d hc hk hd=>au (n:=n) rfl rfl rfl (qPO c k d hc hk hd)
theorem AB (m:Nat) (hm:m<=3) (t:Int) (ht:0<=t/\t<=10^15) (w:Wt) (hd:dp w<=8) (hw:cT w) (hx:eo w) (f:Nat->P2) (hb:∀j,cH (f j)) (n:Nat) (ts:List Th) (hu:∀u∈ts,cg u) (hl:ts.length<64):aG tab (n+13) 75 [.lst (ts.map (av m)),aD m w,.int t,af m f]=zT (.lst ((gA m t w f ts).map ar)):=
 au (n:=n+12) rfl rfl (by show zF (D.lst (ts.map (av m)))::aQ false (aD m w::_)++_=_;rw [lA];rfl) (qKa m t w f ts hl (λu h=>Cy m hm u (hu u h) t ht 8 w hd hw hx (n+1)) (λu _=>(l8 (n+11) m hm).at_ (aP u) t (by omega)) λu h=>(l8 (n+11) m hm).gap _ _ (λj=>jY (iO (hu u h)) ht j) hb)
theorem c_law81 (n:Nat) (ns:List Int) (hl:ns.length<=63) (hh:∀i∈ns,2 * i.natAbs<fH):aG tab (n+18) 79 [.lst (ns.map .int)]=zF (.bl true):=by
 refine au (n:=n+17) rfl rfl rfl (qSN ns hl hh ⟨λk=>au (n:=n+16) rfl rfl rfl (qPR ns k),gM _,λc hc=>?_,λcs m s h1 h2 h3 h4=>?_,λm c ts h1 h2=>?_,λm p h=>AA m 8 p h (n+3),λc0 cs m s h1 h2 h3 h4=>?_,λc m s h1 h2 h3=>⟨_,λj=>(zx c j s h3).b,au (n:=n+16) rfl rfl rfl (zU c m h1 s h2 h3 (gM _))⟩,
  λm w t f ts h1 h2 h3 h4 h5 h6 h7 h8=>AB m h1 t h2 w h3 h4 h5 f h6 (n+4) ts h7 h8,λm w f due t c p h1 h2 h3 h4 h5 hb h6 h7 h8 h9 h10=>?_,λrows c h1 h2 h3 h4=>?_,λm t wo a top rs h1 h2 h3 h4 hb h5 h6 h7 h8=>qRN m h1 t h2 wo h3 h4 a hb n top h5 h6 h7 h8 rs,λm w h=>Ca m 8 w h (n+7)⟩)
 ·obtain⟨s,h1,h2⟩:=qM4 (call:=aG tab (n+16)) c hc (gM _)
  exact⟨s,h1,au (n:=n+16) rfl rfl rfl h2⟩
 ·obtain⟨ts,q1,q2,q3⟩:=qJ8 (call:=aG tab (n+16)) cs m s (by omega) λc hc=>by
   obtain⟨u,u1,u2⟩:=qM0 (call:=aG tab (n+15)) c m h3 s (h2 c hc) h4 (gM _) λk hk=>au (n:=n+14) rfl rfl rfl (qPF c k s (h2 c hc) hk h4 (gM _))
   exact⟨u,u1,au (n:=n+15) rfl rfl rfl u2⟩
  exact⟨ts,q1,q2,au (n:=n+16) rfl rfl rfl q3⟩
 ·obtain⟨p,q1,q2,q3,q4⟩:=qM3 (call:=aG tab (n+16)) m c h1 (gM _) (λev g=>au (n:=n+15) rfl rfl rfl (qKe m ev g)) ts h2
  exact⟨p,q1,q2,q3,au (n:=n+16) rfl rfl rfl q4⟩
 ·obtain⟨w,q1,q2,q3,q4⟩:=qM5 (call:=aG tab (n+16)) c0 cs m s h3 (gM _) λc hc=>by
   obtain⟨a,a1,a2,a3⟩:=qNg (call:=aG tab (n+15)) c m s hc h2 (gM _) (au (n:=n+14) rfl rfl rfl (zU c m h1 s hc h2 (gM _)))
   exact⟨a,a1,a2,au (n:=n+15) rfl rfl rfl a3⟩
  exact⟨w,q1,q2,by omega,au (n:=n+16) rfl rfl rfl q4⟩
 ·obtain⟨rows,led,q1,q2,q3,q4,q5⟩:=qPL (call:=aG tab (n+16)) m w t c f due p h8 h9 h10 (λq hq hl=>A0 m 8 q hq hl (n+7)) (λts hl hts=>AB m h1 t h2 w h3 h4 h5 f hb (n+3) ts (λu hu=>h7 u (hts u hu)) hl) (λrs k hk=>by
   obtain⟨x,hx⟩:=qJ7 (call:=aG tab (n+15)) rs due c k hk h6 (gM _)
   exact⟨x,au (n:=n+15) rfl rfl rfl hx⟩)
  exact⟨rows,led,q1,q2,q3,q4,au (n:=n+16) rfl rfl (by show aQ false (aw m p::aD m w::_)++_=_;rw [ny,lA];rfl) q5⟩
 ·obtain⟨b,rs,q⟩:=qJ9 (call:=aG tab (n+16)) rows c h1 (gM _) h2 h3 h4
  exact⟨b,rs,au (n:=n+16) rfl rfl rfl q⟩
end Dw.T
namespace Dw.K81
open PySem L2 Dw Dw.T
open PySem.W (isFn makesIn plainGet hasDictIn plainOver nsIn fnOf codeIn keepIn findIn mg_of mg_none_of Frag)
noncomputable def vU:List (Str×Nat×Nat×Nat×List Str)->List Mt
 | []=>[]
 | (n,_,C,i,ns)::r=>⟨n,⟨C,ns⟩,"suits",i⟩::⟨n,⟨C,ns⟩,"verdict",i+1⟩::vU r
def gx:Gx:=⟨("side_at",1)::("side_joined",2)::("side_narrowed",3)::("still_swath",4)::("frame_at",5)::("frames_joined",6)::("frames_narrowed",7)::("thing_handle",8)::("thing_swath",9)::("thing_marks",10)::("thing_worth",11)::("thing_box",12)::("told_cover",13)::("told_heart",14)::("told_some",15)::("told_every",16)::("told_least",17)::("told_most",18)::("thing_told",19)::("told_poured",20)::("tolds_poured",21)::("is_leaf",22)::("page_told",23)::("page_parts",24)::("things_tolds",25)::("pages_tolds",26)::("make_leaf",27)::("make_fork",28)::("suiting_in",29)::("sides_meet",30)::("side_inside",31)::("side_gap",32)::("boxes_meet",33)::("box_inside",34)::("box_gap",35)::("pages_of_cut",36)::("is_shut",37)::("beats_of",38)::("beats_below",39)::("meeting",40)::("verdict_from",41)::("cover_at",42)::("heart_at",43)::("has_each",44)::("has_one",45)::("crosses_box",46)::("want_or_anything",47)::("cover_gap",48)::("rows_of_leaf",49)::("is_far",50)::("near_word_stands",51)::("rows_of_open_leaves",52)::("near_stands",53)::("_law_cell_at",54)::("_law_draw",55)::("_law_scale",56)::("_law_side_by",57)::("_law_thing_by",58)::("_law_things_by",59)::("_law_fork_of",60)::("_law_shape_by",61)::("_law_page_of",62)::("_law_under",63)::("_law_at",64)::("_law_touch",65)::("_law_lies_in",66)::("_law_gap_of",67)::("_law_box_by",68)::("_law_atom_by",69)::("_law_plain_by",70)::("_law_atom_of",71)::("_law_want_of",72)::("_law_atom_suits",73)::("_law_suits",74)::("_law_rows_of",75)::("_law_word_by",76)::("_law_made_up",77)::("_law_spoilt",78)::("law",79)::[],[],[],⟨"Anything",⟨387,[]⟩,"suits",80⟩::⟨"Anything",⟨387,[]⟩,"verdict",81⟩::vU gm,("box",0)::("far",1)::("marks",0)::("first",1)::("last",2)::("least",0)::("one",0)::("two",1)::[],[]⟩
theorem qOH:∀x∈du,gx.defs.lookup x=none:=by decide +kernel
abbrev cq (s:Stmt):=gN gx 60 (aL s) (cK (aL s)) (iK 60 (cK (aL s)) (dC s)) (dC s)
def pR (s:Stmt) (ps:List Str):Bool:=(aL s).kind == .function&&!(aL s).isCoroutine&&!(aL s).isGenerator&&decide (cK (aL s)).Nodup&&decide ((cK (aL s)).take ps.length=ps)&&ps.all (λx=>(aL s).names.lookup x == some .local||(aL s).names.lookup x == some .cell)&&(aL s).names.all λy=>y.2 != .free
theorem qK {s:Stmt}{ps:List Str}(h:pR s ps=true):FnScope (cK (aL s)) ps (aL s):=by
 unfold pR at h
 simp only [aY,yaM,fC,beq_iff_eq,bne_iff_ne,Bool.not_eq_true',decide_eq_true_eq] at h
 obtain⟨⟨⟨⟨⟨⟨h1,h2⟩,h3⟩,h4⟩,h5⟩,h6⟩,h7⟩:=h
 exact⟨h1,h2,h3,h4,h5,h6,h7⟩
theorem yu {P:List Value->Prop}(h:∀a,P [a]) (us:List Value) (hl:us.length=1):P us:=by
 obtain⟨a,rfl⟩:=List.length_eq_one_iff.mp hl
 exact h a
theorem yt {P:List Value->Prop}(h:∀a0 a1,P [a0,a1]) (us:List Value) (hl:us.length=2):P us:=by
 cases us with
 | nil=>cases hl
 | cons a r=>exact yu (P:=λr=>P (a::r)) (h a) r (kS hl)
theorem yr {P:List Value->Prop}(h:∀a0 a1 a2,P [a0,a1,a2]) (us:List Value) (hl:us.length=3):P us:=by
 cases us with
 | nil=>cases hl
 | cons a r=>exact yt (P:=λr=>P (a::r)) (h a) r (kS hl)
theorem yq {P:List Value->Prop}(h:∀a0 a1 a2 a3,P [a0,a1,a2,a3]) (us:List Value) (hl:us.length=4):P us:=by
 cases us with
 | nil=>cases hl
 | cons a r=>exact yr (P:=λr=>P (a::r)) (h a) r (kS hl)
theorem yp {P:List Value->Prop}(h:∀a0 a1 a2 a3 a4,P [a0,a1,a2,a3,a4]) (us:List Value) (hl:us.length=5):P us:=by
 cases us with
 | nil=>cases hl
 | cons a r=>exact yq (P:=λr=>P (a::r)) (h a) r (kS hl)
theorem yn {P:List Value->Prop}(h:∀a0 a1 a2 a3 a4 a5,P [a0,a1,a2,a3,a4,a5]) (us:List Value) (hl:us.length=6):P us:=by
 cases us with
 | nil=>cases hl
 | cons a r=>exact yp (P:=λr=>P (a::r)) (h a) r (kS hl)
theorem us7 {P:List Value->Prop}(h:∀a0 a1 a2 a3 a4 a5 a6,P [a0,a1,a2,a3,a4,a5,a6]) (us:List Value) (hl:us.length=7):P us:=by
 cases us with
 | nil=>cases hl
 | cons a r=>exact yn (P:=λr=>P (a::r)) (h a) r (kS hl)
theorem Eb {fd:FuncData}{ps:List Str}(hp:ps.length=1) (h:∀a0,bindArgs fd ⟨[a0],[]⟩=pure (ps.zip [a0])) (us:List Value) (hl:us.length=ps.length):bindArgs fd ⟨us,[]⟩=pure (ps.zip us):=yu (P:=λus=>bindArgs fd ⟨us,[]⟩=pure (ps.zip us)) h us (hl.trans hp)
theorem Ea {fd:FuncData}{ps:List Str}(hp:ps.length=2) (h:∀a0 a1,bindArgs fd ⟨[a0,a1],[]⟩=pure (ps.zip [a0,a1])) (us:List Value) (hl:us.length=ps.length):bindArgs fd ⟨us,[]⟩=pure (ps.zip us):=yt (P:=λus=>bindArgs fd ⟨us,[]⟩=pure (ps.zip us)) h us (hl.trans hp)
theorem xN {fd:FuncData}{ps:List Str}(hp:ps.length=3) (h:∀a0 a1 a2,bindArgs fd ⟨[a0,a1,a2],[]⟩=pure (ps.zip [a0,a1,a2])) (us:List Value) (hl:us.length=ps.length):bindArgs fd ⟨us,[]⟩=pure (ps.zip us):=yr (P:=λus=>bindArgs fd ⟨us,[]⟩=pure (ps.zip us)) h us (hl.trans hp)
theorem D9 {fd:FuncData}{ps:List Str}(hp:ps.length=4) (h:∀a0 a1 a2 a3,bindArgs fd ⟨[a0,a1,a2,a3],[]⟩=pure (ps.zip [a0,a1,a2,a3])) (us:List Value) (hl:us.length=ps.length):bindArgs fd ⟨us,[]⟩=pure (ps.zip us):=yq (P:=λus=>bindArgs fd ⟨us,[]⟩=pure (ps.zip us)) h us (hl.trans hp)
theorem bd5 {fd:FuncData}{ps:List Str}(hp:ps.length=5) (h:∀a0 a1 a2 a3 a4,bindArgs fd ⟨[a0,a1,a2,a3,a4],[]⟩=pure (ps.zip [a0,a1,a2,a3,a4])) (us:List Value) (hl:us.length=ps.length):bindArgs fd ⟨us,[]⟩=pure (ps.zip us):=yp (P:=λus=>bindArgs fd ⟨us,[]⟩=pure (ps.zip us)) h us (hl.trans hp)
theorem bd6 {fd:FuncData}{ps:List Str}(hp:ps.length=6) (h:∀a0 a1 a2 a3 a4 a5,bindArgs fd ⟨[a0,a1,a2,a3,a4,a5],[]⟩=pure (ps.zip [a0,a1,a2,a3,a4,a5])) (us:List Value) (hl:us.length=ps.length):bindArgs fd ⟨us,[]⟩=pure (ps.zip us):=yn (P:=λus=>bindArgs fd ⟨us,[]⟩=pure (ps.zip us)) h us (hl.trans hp)
theorem bd7 {fd:FuncData}{ps:List Str}(hp:ps.length=7) (h:∀a0 a1 a2 a3 a4 a5 a6,bindArgs fd ⟨[a0,a1,a2,a3,a4,a5,a6],[]⟩=pure (ps.zip [a0,a1,a2,a3,a4,a5,a6])) (us:List Value) (hl:us.length=ps.length):bindArgs fd ⟨us,[]⟩=pure (ps.zip us):=us7 (P:=λus=>bindArgs fd ⟨us,[]⟩=pure (ps.zip us)) h us (hl.trans hp)
theorem fc {α:Type}{p:α->Prop}{a:α}{l:List α}(h:p a) (t:∀x∈l,p x):∀x∈a::l,p x:=List.forall_mem_cons.mpr ⟨h,t⟩
section
variable {K:Frag}{h:Heap}{mg:Str->Option Value}
abbrev Bd (x q:Str) (s:Stmt) (ps:List Str):Prop:=∀(kV doc pm:Value) (an:Option Addr) (cdv ct:Value) (us:List Value),us.length=ps.length->bindArgs (fnOf x q (gB s) (dC s) (aL s) .none kV doc pm an cdv ct) ⟨us,[]⟩=pure (ps.zip us)
abbrev vO (s:Stmt):List Str:=(gB s).args.map (·.arg)
abbrev Ei (K:Frag) (x q:Str) (s:Stmt) (m:Str) (t:Tok) (c:Nat) (fd:Fd):Prop:=K.lookup (c+1)=some (fo x q s m t c)/\codeIn K (.ref c) q=true/\keepIn K (.ref (c+1))=true/\Bd x q s (vO s)/\pR s (vO s)=true/\cq s=some fd.body/\fd.np=(vO s).length/\fd.ns=(cK (aL s)).length
def yZ (K:Frag):List (Str×Nat)->List (Str×Nat×Nat×Nat)->Prop
 | [],[]=>True
 | (x,g)::l,(m,t,i,c)::r=>(∃fd,tab[g]?=some fd/\nsIn K mainGlobals x=some (some (.ref (c+1)))/\Ei K x x (top i) m t c fd)/\yZ K l r
 | _,_=>False
theorem zC (X:K.In h) (G:h.Ns mainGlobals mg):∀(l:List (Str×Nat)) (r:List (Str×Nat×Nat×Nat)),yZ K l r->∀p∈l,DefIn K mg gx tab 60 p.1 p.2
 | [],[],_=>λ_ z=>nomatch z
 | (x,g)::l,(m,t,i,c)::r,y=>by
  obtain⟨⟨fd,tt,a,l',cc,k,b,sc,cs,np,ns⟩,z⟩:=y
  exact fc ⟨⟨c+1,_,top i,_,fd,mg_of X G a,rk (j7 (st:=top i) l' cc k),(j7 (st:=top i) l' cc k).binds b,qK sc,cs,tt,np,ns⟩⟩ (zC X G l r z)
abbrev xQ (K:Frag) (n m:Str) (s:Stmt) (C c i:Nat) (ns:List Str):Prop:=∃fd,tab[i]?=some fd/\(findIn K (.ref C) m=some (some (.ref (c+1)))/\isFn K (.ref (c+1))=true)/\Ei K m (n++"."++m) s mH mT c fd/\m∉ns
abbrev IOk (K:Frag) (n:Str) (s:Stmt) (C c:Nat) (ns:List Str):Prop:=makesIn K C=true/\findIn K (.ref C) "__init__"=some (some (.ref (c+1)))/\isFn K (.ref (c+1))=true/\K.lookup (c+1)=some (fo "__init__" (n++".__init__") s mH mT c)/\codeIn K (.ref c) (n++".__init__")=true/\keepIn K (.ref (c+1))=true/\Bd "__init__" (n++".__init__") s ("self"::ns)/\pR s ("self"::ns)=true/\ji (aL s) (cK (aL s)) 0 ns (dC s)=true/\ns.length<1000
def yY (K:Frag):List (Str×Nat×Nat×Nat×List Str)->Prop
 | []=>True
 | (n,j,C,i,ns)::r=>(nsIn K mainGlobals n=some (some (.ref C))/\(plainGet K C Str.empty=true/\hasDictIn K C=true/\plainOver K C=true/\findIn K (.ref C) "__setattr__"=some (some (.builtin "object.__setattr__")))/\keepIn K (.ref C)=true/\ns.Nodup/\ns.map (findIn K (.ref C))=ns.map (λ_=>some none) /\
  IOk K n (dX j 0) C (C - 25) ns/\xQ K n "suits" (dX j 1) C (C - 18) i ns/\xQ K n "verdict" (dX j 2) C (C - 11) (i+1) ns)/\yY K r
theorem vA {α β:Type}{f:α->Option (Option β)}:∀{l:List α},l.map f=l.map (λ_=>some none)->∀x∈l,f x=some none
 | [],_=>λ_ z=>nomatch z
 | _::_,h=>fc (List.cons.inj h).1 (vA (List.cons.inj h).2)
theorem pW (X:K.In h) (G:h.Ns mainGlobals mg) {n m:Str}{s:Stmt}{C c i:Nat}{ns:List Str}(a:nsIn K mainGlobals n=some (some (.ref C))) (I:qE K C ns) (L:Cls K C) (N:∀f∈ns,NoAttr K C f) (nd:ns.Nodup) (z:xQ K n m s C c i ns):MthIn K mg gx tab 60 n m i C ns:=by
 obtain⟨fd,t,⟨f1,f2⟩,⟨l,cc,k,b,sc,cs,np,n2⟩,hn⟩:=z
 exact⟨⟨c+1,_,s,_,_,fd,mg_of X G a,I,L,N,⟨f1,f2,k⟩,rk (j7 (st:=s) l cc k),(j7 (st:=s) l cc k).binds b,qK sc,cs,t,np,n2,hn,nd⟩⟩
theorem zy (X:K.In h) (G:h.Ns mainGlobals mg):∀r:List (Str×Nat×Nat×Nat×List Str),yY K r->∀u∈vU r,MthIn K mg gx tab 60 u.c u.m u.i u.kn.c u.kn.ns
 | [],_=>λ_ z=>nomatch z
 | (n,j,C,i,ns)::r,y=>by
  obtain⟨⟨a,⟨l1,l2,l3,l4⟩,kp,nd,N,⟨m1,m2,m3,l,cc,k,b,sc,ib,nl⟩,v1,v2⟩,z⟩:=y
  have I:qE K C ns:=.inl ⟨_,_,dX j 0,_,_,⟨m1,m2,m3,kp⟩,rk (j7 (st:=dX j 0) l cc k),(j7 (st:=dX j 0) l cc k).binds b,qK sc,ib,rfl,nl⟩
  exact fc (pW X G a I ⟨l1,l2,l3,l4⟩ (vA N) nd v1) (fc (pW X G a I ⟨l1,l2,l3,l4⟩ (vA N) nd v2) (zy X G r z))
end
section
variable {h:Heap}{mg:Str->Option Value}{P:Params}(X:(heap P).In h) (G:h.Ns mainGlobals mg)
include X G
theorem hd:∀p∈gx.defs,DefIn (heap P) mg gx tab 60 p.1 p.2:=by
 refine zC X G _ [(mA,194,2,27),(mA,194,3,34),(mA,194,4,41),(mA,194,5,46),(mA,194,6,51),(mA,194,7,56),(mA,194,8,61),(mB,244,10,68),(mB,244,11,75),(mB,244,12,82),(mB,244,13,89),(mB,244,14,96),(mB,244,15,103),(mB,244,16,110),(mB,244,17,117),(mB,244,18,124),(mB,244,19,131),(mB,244,20,138),(mB,244,21,145),(mB,244,22,152),(mB,244,23,159),(mC,351,25,166),(mC,351,26,173),(mC,351,27,180),(mC,351,28,185),(mC,351,29,190),(mC,351,30,197),(mC,351,31,204),(mD,400,33,209),(mE,408,35,216),(mE,408,36,223),(mE,408,37,230),(mE,408,38,235),(mE,408,39,240),(mE,408,40,245),(mF,452,42,250),(mF,452,43,257),(mG,469,45,264),(mG,469,46,271),(mG,469,47,278),(mH,505,49,285),(mH,505,50,292),(mH,505,51,299),(mH,505,52,306),(mH,505,53,313),(mH,505,54,320),(mI,1210,69,835),(mI,1210,70,842),(mI,1210,71,847),(mI,1210,72,854),(mI,1210,73,861),(mI,1210,74,868),(mI,1210,75,873),(mJ,1277,77,880),(mJ,1277,78,887),(mJ,1277,79,894),(mJ,1277,80,901),(mJ,1277,81,906),(mJ,1277,82,911),(mJ,1277,83,918),(mJ,1277,84,923),(mJ,1277,85,928),(mJ,1277,86,935),(mJ,1277,87,940),(mJ,1277,88,947),(mJ,1277,89,954),(mJ,1277,90,961),(mJ,1277,91,968),(mJ,1277,92,975),(mJ,1277,93,982),(mJ,1277,94,989),(mJ,1277,95,996),(mJ,1277,96,1001),(mJ,1277,97,1008),(mJ,1277,98,1013),(mJ,1277,99,1020),(mJ,1277,100,1027),(mJ,1277,101,1034),(mJ,1277,102,1039)] ?_
 repeat' first|exact True.intro|refine And.intro ⟨_,rfl,?_,?_,?_,?_,?_,?_,?_,?_,?_⟩ ?_
 all_goals first|kernel_rfl|exact λ_ _ _ _ _ _=>Eb rfl λ_=>by kernel_rfl|exact λ_ _ _ _ _ _=>Ea rfl λ_ _=>by kernel_rfl|exact λ_ _ _ _ _ _=>xN rfl λ_ _ _=>by kernel_rfl|exact λ_ _ _ _ _ _=>D9 rfl λ_ _ _ _=>by kernel_rfl|exact λ_ _ _ _ _ _=>bd5 rfl λ_ _ _ _ _=>by kernel_rfl|exact λ_ _ _ _ _ _=>bd6 rfl λ_ _ _ _ _ _=>by kernel_rfl|exact λ_ _ _ _ _ _=>bd7 rfl λ_ _ _ _ _ _ _=>by kernel_rfl
theorem hb:∀x∈du,mg x=none:=by
 refine fc (mg_none_of X G ?_) (fc (mg_none_of X G ?_) (fc (mg_none_of X G ?_) (fc (mg_none_of X G ?_) (fc (mg_none_of X G ?_) (fc (mg_none_of X G ?_) (fc (mg_none_of X G ?_) (fc (mg_none_of X G ?_) (fc (mg_none_of X G ?_) (fc (mg_none_of X G ?_) (fc (mg_none_of X G ?_) (fc (mg_none_of X G ?_) (fc (mg_none_of X G ?_) (fc (mg_none_of X G ?_) (fc (mg_none_of X G ?_) (fc (mg_none_of X G ?_) (fc (mg_none_of X G ?_) (fc (mg_none_of X G ?_) (λ_ h=>nomatch h))))))))))))))))))
 all_goals kernel_rfl
theorem oA:∀u∈gx.meth,MthIn (heap P) mg gx tab 60 u.c u.m u.i u.kn.c u.kn.ns:=by
 have I:qE (heap P) 387 []:=.inr ⟨rfl,⟨by kernel_rfl,by kernel_rfl,by kernel_rfl⟩⟩
 have L:Cls (heap P) 387:=⟨by kernel_rfl,by kernel_rfl,by kernel_rfl,by kernel_rfl⟩
 have a:nsIn (heap P) mainGlobals "Anything"=some (some (.ref 387)):=by kernel_rfl
 refine fc (pW X G (n:="Anything") (m:="suits") (s:=dX 56 0) (c:=387 - 18) a I L (λ_ h=>nomatch h) .nil ⟨_,rfl,⟨?_,?_⟩,⟨?_,?_,?_,?_,?_,?_,?_,?_⟩,?_⟩) (fc (pW X G (n:="Anything") (m:="verdict") (s:=dX 56 1) (c:=387 - 11) a I L (λ_ h=>nomatch h) .nil ⟨_,rfl,⟨?_,?_⟩,⟨?_,?_,?_,?_,?_,?_,?_,?_⟩,?_⟩) (zy X G gm ?zz))
 case zz =>
  repeat' first|exact True.intro|refine And.intro ⟨?_,⟨?_,?_,?_,?_⟩,?_,?_,?_,⟨?_,?_,?_,?_,?_,?_,?_,?_,?_,?_⟩,⟨_,rfl,⟨?_,?_⟩,⟨?_,?_,?_,?_,?_,?_,?_,?_⟩,?_⟩,⟨_,rfl,⟨?_,?_⟩,⟨?_,?_,?_,?_,?_,?_,?_,?_⟩,?_⟩⟩ ?_
  all_goals first|kernel_rfl|decide|exact λ_ _ _ _ _ _=>Eb rfl λ_=>by kernel_rfl|exact λ_ _ _ _ _ _=>Ea rfl λ_ _=>by kernel_rfl|exact λ_ _ _ _ _ _=>xN rfl λ_ _ _=>by kernel_rfl|exact λ_ _ _ _ _ _=>D9 rfl λ_ _ _ _=>by kernel_rfl
 all_goals first|kernel_rfl|decide|exact λ_ _ _ _ _ _=>xN rfl λ_ _ _=>by kernel_rfl
theorem fin {l:PySem.W.OpenLaw}{w:World}{fa:Addr}(hfa:mg "law"=some (.ref fa)):∃fd:FuncData,(∀(s:Shared) (v:Value),BindsTo s fd ⟨[v],[]⟩ [("script",v)])/\∀base:Heap,(heap P).In base->base.Ns mainGlobals mg->FnOk l.prog w (heap P) mg base fg 20 fa fd ["script"] (dh (heap P) 1 (aG tab 18 79)):=by
 have e:=hfa.symm.trans (mg_of X G (n:="law") (v:=.ref 1040) (by kernel_rfl))
 cases e
 have l0:(heap P).lookup 1040=some (fo "law" "law" (top 102) mJ 1277 1039):=by kernel_rfl
 exact⟨_,λs v=>.of_eq rfl,λbase _ _=>(vS qVs qOH (hb X G) (λx i h=>nomatch h) (λx i h=>hd X G (x,i) (gn h)) (oA X G) 18 "law" "law" 79 _ _ (top 102) ["script"] f_law (rk (j7 (st:=top 102) l0 (by kernel_rfl) (by kernel_rfl))) (qK (by kernel_rfl)) (by kernel_rfl) rfl rfl (by kernel_rfl))⟩
end
end Dw.K81
open PySem PySem.W PyProof.Rows
set_option maxRecDepth 100000 in
set_option maxHeartbeats 0 in
theorem PySem.Challenge.cw_driftwood_k81_whole_no_wrong_nearest_tak_holds : PySem.Challenge.rw_driftwood_k81_whole_no_wrong_nearest_tak.Holds := by
 rw [Dw.K81.lw_eq]
 w_on
 refine holds_law Dw.K81.said λsaid=>?_
 refine holds_open (q:=Dw.K81.q) (loose:=[]) (Xt:=λs=>xlAt Dw.K81.q [] s&&recOk (RowW.records Dw.K81.lw.row.toRowW) s) (XP:=XL Dw.K81.q []) (Yf:=Hook.obs Dw.K81.hk) (Ya:=Hook.val Dw.K81.hk) (YP:=Hook.says Dw.K81.hk) (N:=8000) Dw.K81.hl (Hook.of Dw.K81.hk) (Hook.keeps Dw.K81.hk) (λs e=>xl_of s (Bool.and_eq_true_iff.mp e).1) XL.keeps (by rfl) (by rfl) (by rfl) (λs e=>recFacts_of (Bool.and_eq_true_iff.mp e).2) (by rfl) (by assumption) (by kernel_rfl) ⟨rfl,rfl,rfl,rfl,rfl,by kernel_rfl⟩ ?hw ?hc
 case hw=>w_witness2
 exact Dw.dw_walk (l:=Dw.K81.lw) (tab:=Dw.T.tab) (n:=18) (i:=79) (λns h w=>Dw.T.c_law81 0 ns h w) rfl rfl ⟨rfl,by decide,by decide⟩ (λw h Y=>PySem.W.kIn_of Y) λw mg fa h KX G hmg=>Dw.K81.fin KX G hmg
