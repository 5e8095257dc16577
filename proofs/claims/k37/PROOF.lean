import PyProof.Rows.All
import Wide.All
import OpenK.AllK
import Wide.FinOn
import Lean
import PyProof.EqAt
import PyProof.EqKinds
import PyProof.TupleCall
import PySem.Challenge.RW_driftwood_k37_one_leaf
set_option linter.all false
set_option Elab.async false
set_option maxRecDepth 100000
set_option maxHeartbeats 4000000
noncomputable section
abbrev Qa:=@PySem.Str.ofString
abbrev Qb:=@PySem.W.Frag
abbrev Qc:=@PySem.wpAny_bind
abbrev Qd:=@PySem.wpAny_pure
abbrev Qe:=@PySem.wpAny_mono
abbrev Qf:=@PySem.wpAny_field
abbrev Qg:=@PySem.Heap.get?_push_of_some
abbrev Qh:=@PySem.Heap.get?_push_size
abbrev Qi:=@PySem.Heap.lt_size
abbrev Qj:=@decide_eq_false
abbrev Qk:=@decide_eq_true
abbrev Ql:=@if_pos
abbrev Qm:=@if_neg
abbrev Qn:=@absurd
abbrev Qo:=@PySem.bootBuiltins
abbrev Qp:=@of_decide_eq_true
abbrev aL:=@Bool.and_eq_true
abbrev aZ:=@List.size_toArray
abbrev yac:=@Option.map_eq_some_iff
abbrev bU:=@List.getElem?_set_ne
abbrev aK:=@Nat.le_refl
abbrev yaf:=@List.mem_cons
abbrev cw:=@Nat.lt_of_lt_of_le
abbrev dq:=@List.mem_cons_of_mem
abbrev dj:=@PySem.mem_of_lookup
abbrev eJ:=@List.getElem?_eq_getElem
abbrev dF:=@List.mem_cons_self
abbrev yal:=@List.getElem?_eq_some_iff
abbrev bR:=@Nat.ne_of_lt
abbrev eT:=@List.mem_append_right
abbrev dE:=@Option.bind_some
abbrev dD:=@Bool.or_eq_true
abbrev d5:=@List.not_mem_nil
abbrev fg:=@Bool.false_ne_true
abbrev ie:=@PyProof.Rows.callWith_type1
abbrev yat:=@PyProof.Rows.slot_tuple_getitem
abbrev dM:=@Nat.le_trans
abbrev fC:=@List.length_cons
abbrev fB:=@Option.some.inj
abbrev eS:=@List.all_cons
abbrev jR:=@List.getElem?_append_right
abbrev jQ:=@List.getD_eq_getElem?_getD
abbrev fh:=@Nat.lt_irrefl
abbrev gf:=@List.lookup_cons
abbrev gE:=@List.getElem?_map
abbrev jY:=@List.getElem?_cons_succ
abbrev jX:=@List.getElem?_replicate
abbrev ik:=@List.length_append
abbrev yaG:=@List.length_eq_zero_iff
abbrev yaH:=@List.all_eq_true
abbrev yaI:=@List.mem_map
abbrev jW:=@List.getElem?_set_self
abbrev lB:=@List.getElem?_append_left
abbrev jV:=@List.mem_of_getElem?
abbrev gd:=@List.map_cons
abbrev jU:=@List.replicate_succ
abbrev iY:=@List.getElem_mem
abbrev yaP:=@List.mem_singleton
abbrev iX:=@List.append_nil
abbrev nR:=@PySem.slot_listiter_next
abbrev lA:=@List.length_zipWith
abbrev ly:=@Bool.false_eq_true
abbrev yaU:=@List.nodup_cons
abbrev jT:=@PySem.W.kia_one
abbrev iW:=@Bool.and_true
abbrev yaX:=@List.mem_iff_getElem
abbrev jS:=@Bool.and_false
abbrev lx:=@List.any_eq_true
abbrev nL:=@List.filterMap_cons
abbrev qG:=@PySem.F.args_tuple_add_2
abbrev ybc:=@List.mem_filter
abbrev lr:=@List.length_map
abbrev nK:=@PySem.W.callWith_K
abbrev qF:=@PySem.F.entry_tuple_add
abbrev lq:=@List.foldl_cons
abbrev ybh:=@List.pairwise_cons
abbrev ll:=@Option.map_some
abbrev qE:=@PySem.F.plainAttrs_list
abbrev qD:=@PySem.F.slot_tuple_add
abbrev nJ:=@List.flatten_cons
abbrev iV:=@Prod.mk.inj
abbrev nI:=@Int.toNat_natCast
abbrev jP:=@Nat.ne_of_gt
abbrev qC:=@List.length_replicate
abbrev jO:=@List.all_nil
abbrev qB:=@List.map_congr_left
abbrev qz:=@Array.length_toList
abbrev qw:=@PySem.W.plainGet_of
abbrev jN:=@Nat.zero_le
abbrev qv:=@PySem.W.callWith_K0
abbrev nH:=@List.find?_cons
abbrev nG:=@Nat.min_le_left
abbrev qu:=@List.flatMap_append
abbrev ybz:=@Int.natAbs_eq_zero
abbrev lu:=@Int.le_trans
abbrev qR:=@Option.some.injEq
abbrev qQ:=@List.flatMap_cons
abbrev qP:=@PySem.W.makes_of
abbrev qO:=@Nat.lt_succ_self
abbrev qN:=@List.length_take
abbrev nQ:=@Nat.le_of_lt
abbrev qM:=@List.of_mem_zip
abbrev qL:=@Bool.eq_iff_iff
abbrev qK:=@List.length_nil
abbrev qJ:=@List.forIn_cons
abbrev qI:=@List.nil_append
abbrev qH:=@Nat.le_add_left
abbrev nN:=@Int.zero_mul
abbrev nM:=@Nat.log2_lt
namespace L2
open PySem PySem.Spec PyProof.Rows
noncomputable def dR (s:Stmt):Arguments:=match s with
 | .FunctionDef _ a _ _ _ _ _ _ _ _=>a
 | _=>{ posonlyargs:=[],args:=[],vararg:=none,kwonlyargs:=[],kw_defaults:=[],kwarg:=none,defaults:=[] }
noncomputable def bJ (s:Stmt):List Stmt:=match s with
 | .FunctionDef _ _ b _ _ _ _ _ _ _=>b
 | _=>[]
noncomputable def av (s:Stmt):Scope:=match s with
 | .FunctionDef _ _ _ _ _ _ sc _ _ _=>sc
 | _=>{ kind:=.function,names:=[],isGenerator:=false,isCoroutine:=false }
end L2
namespace Dw.K37
open PySem L2
open PySem.W (isFn makesIn plainGet hasDictIn plainOver nsIn fnOf codeIn keepIn findIn mg_of mg_none_of Frag)
def top (i:Nat):Stmt:=PySem.Challenge.pw_driftwood_k37_one_leaf.main.body.getD i (.Pass ⟨0,0,0,0⟩)
def cb:Stmt->List Stmt|.ClassDef _ _ _ b _ _ _ _ _ _ _=>b|_=>[]
def dS (i j:Nat):Stmt:=(cb (top i)).getD j (.Pass ⟨0,0,0,0⟩)
noncomputable def gm:List (Str×Nat×Nat×Nat×List Str):=[("Meets",61,455,75,["box"]),("Inside",62,495,77,["box"]),("Holds",63,535,79,["box"]),("Near",64,575,81,["box","far"]),("Marked",65,615,83,["marks"]),("Touched",66,655,85,["marks"]),("Crosses",67,695,87,["box","first","last"]),("Worthy",68,735,89,["least"]),("Both",69,775,91,["one","two"]),("Either",70,815,93,["one","two"]),("Unless",71,855,95,["one"])]
noncomputable def mT:Nat:=556
noncomputable def mA:Str:="driftwood.swaths"
noncomputable def mB:Str:="driftwood.things"
noncomputable def mC:Str:="driftwood.pages"
noncomputable def mD:Str:="driftwood.ask"
noncomputable def mE:Str:="driftwood.boxes"
noncomputable def mF:Str:="driftwood.meeting"
noncomputable def mG:Str:="driftwood.wants"
noncomputable def mH:Str:="law_driftwood_k37_one_leaf"
noncomputable def en (P:Params) (n:Str) (t:Tok) (v:Value):DictEntry:=⟨PyData.keyHash P n,.str n t,v⟩
def er (P:Params) (n:Str) (t:Tok) (a:Nat):DictEntry:=en P n t (.ref a)
noncomputable def dc (es:List DictEntry) (n:Nat):Obj:={ cls:=.type "dict",data:=.dict es.toArray n }
def fo (n q:Str) (s:Stmt) (m:Str) (t:Tok) (c:Nat):Obj:={ cls:=.type "function",data:=.func (fnOf n q (dR s) (bJ s) (av s) .none .none .none (.str m t) none (.ref c) .none) }
def B5 (n q:Str) (s:Stmt) (m:Str) (t:Tok) (c d:Nat):Obj:={ cls:=.type "function",data:=.func (fnOf n q (dR s) (bJ s) (av s) (.ref d) .none .none (.str m t) none (.ref c) .none) }
noncomputable def co (n q:Str) (t u x:Tok) (a b c d e r f s:Nat) (g h i:Value) (j k:Nat) (y:Tok):Obj:={ cls:=.type "code",data:=.fields #[.str n t,.str q u,.str "/claim/cut.py" x,.int a 0,.int b 0,.int c 0,.int d 0,.int e 0,.ref r,.bool true,.int f 0,.ref s,.none,g,h,i,.int j 0,.int k 0,.str "/claim/cut.py" y] }
def ca (n q:Str) (t a b r j:Nat):Obj:=co n q t (t+1) (t+2) a b 0 0 3 r 181 (r+1) (.ref (r+2)) (.ref (r+3)) (.ref (r+4)) j a (j+1)
def cn (n q:Str) (t a b r j:Nat):Obj:=co n q t (t+1) (t+2) a b 0 0 3 r 181 (r+1) .none .none (.ref (r+2)) j a (j+1)
def c0:Stmt:=top 0
def c1:Stmt:=top 1
def c2:Stmt:=top 2
def c3:Stmt:=top 3
def c4:Stmt:=top 4
def c5:Stmt:=top 5
def c6:Stmt:=top 6
def c7:Stmt:=top 7
def c8:Stmt:=top 8
def c9:Stmt:=top 9
def vQ:Stmt:=top 10
def vP:Stmt:=top 11
def vO:Stmt:=top 12
def hR:Stmt:=top 13
def k0:Stmt:=top 14
def vN:Stmt:=top 15
def vM:Stmt:=top 16
def vL:Stmt:=top 17
def vK:Stmt:=top 18
def vJ:Stmt:=top 19
def vI:Stmt:=top 20
def vH:Stmt:=top 21
def vG:Stmt:=top 22
def vF:Stmt:=top 23
def Cf:Stmt:=top 24
def vE:Stmt:=top 25
def vD:Stmt:=top 26
def vC:Stmt:=top 27
def vB:Stmt:=top 28
def vA:Stmt:=top 29
def vz:Stmt:=top 30
def Ce:Stmt:=top 31
def vy:Stmt:=top 32
def vx:Stmt:=top 33
def vw:Stmt:=top 34
def vq:Stmt:=top 35
def vp:Stmt:=top 36
def vo:Stmt:=top 37
def vn:Stmt:=top 38
def vm:Stmt:=top 39
def Cd:Stmt:=top 40
def Cb:Stmt:=top 41
def vk:Stmt:=top 42
def vj:Stmt:=top 43
def vi:Stmt:=top 44
def vh:Stmt:=top 45
def vg:Stmt:=top 46
def ve:Stmt:=top 47
def Ca:Stmt:=top 48
def vd:Stmt:=top 49
def vc:Stmt:=top 50
def vb:Stmt:=top 51
def B9:Stmt:=top 52
def va:Stmt:=top 53
def u9:Stmt:=top 54
def u7:Stmt:=top 55
def u6:Stmt:=top 56
def uZ:Stmt:=top 57
def uY:Stmt:=top 58
def uX:Stmt:=top 59
def uW:Stmt:=top 60
def uV:Stmt:=top 61
def uU:Stmt:=top 62
def uT:Stmt:=top 63
def uS:Stmt:=top 64
def uR:Stmt:=top 65
def uQ:Stmt:=top 66
def uP:Stmt:=top 67
def uO:Stmt:=top 68
def uN:Stmt:=top 69
def uM:Stmt:=top 70
def uL:Stmt:=top 71
def B8:Stmt:=top 72
def uK:Stmt:=top 73
def uJ:Stmt:=top 74
def uI:Stmt:=top 75
def uH:Stmt:=top 76
def uG:Stmt:=top 77
def uF:Stmt:=top 78
def uE:Stmt:=top 79
def uD:Stmt:=top 80
def uC:Stmt:=top 81
def uB:Stmt:=top 82
def uA:Stmt:=top 83
def uy:Stmt:=top 84
def ux:Stmt:=top 85
def uw:Stmt:=top 86
def uu:Stmt:=top 87
def ur:Stmt:=top 88
def uq:Stmt:=top 89
def uo:Stmt:=top 90
def um:Stmt:=top 91
def uk:Stmt:=top 92
def uh:Stmt:=top 93
def ug:Stmt:=top 94
def pw:Program:={ PySem.Challenge.pw_driftwood_k37_one_leaf with main:={ PySem.Challenge.pw_driftwood_k37_one_leaf.main with body:=c0::c1::c2::c3::c4::c5::c6::c7::c8::c9::vQ::vP::vO::hR::k0::vN::vM::vL::vK::vJ::vI::vH::vG::vF::Cf::vE::vD::vC::vB::vA::vz::Ce::vy::vx::vw::vq::vp::vo::vn::vm::Cd::Cb::vk::vj::vi::vh::vg::ve::Ca::vd::vc::vb::B9::va::u9::u7::u6::uZ::uY::uX::uW::uV::uU::uT::uS::uR::uQ::uP::uO::uN::uM::uL::B8::uK::uJ::uI::uH::uG::uF::uE::uD::uC::uB::uA::uy::ux::uw::uu::ur::uq::uo::um::uk::uh::ug::[] } }
def lw:PySem.W.OpenLaw:={ PySem.Challenge.rw_driftwood_k37_one_leaf with prog:=pw }
theorem lw_eq:PySem.Challenge.rw_driftwood_k37_one_leaf=lw:=by kernel_rfl
noncomputable def tu (l:List Value):Obj:={ cls:=.type "tuple",data:=.seq l.toArray }
noncomputable def vt:Nat->List Str->List Value|_,[]=>[]|t,s::l=>.str s t::vt (t+1) l
noncomputable def nf (l:List Value):Obj:={ cls:=.none,data:=.fields l.toArray }
noncomputable def kl (c:Int):List (Nat×Nat)->List Value|[]=>[]|(a,b)::l=>.int a 0::.int c 0::.ref b::kl c l
noncomputable def su (a:Nat):Obj:={ cls:=.type "super",data:=.fields #[.ref a,.ref a,.ref a] }
noncomputable def ic (a:Nat):Obj:={ cls:=.type "builtin_function_or_method",data:=.fields #[.builtin "object.__init_subclass__",.ref a] }
noncomputable def pr:Obj:={ cls:=.type "builtin_function_or_method",data:=.fields #[.builtin "type.__prepare__",.type "type"] }
noncomputable def fr (a b:Nat) (m:Str) (t:Tok):Obj:={ cls:=.type "frame",slots:=#[some (.ref a),some (.ref 3),some (.ref b),none,some (.str m t),none,some (.ref 0)] }
noncomputable def cc (n:Str) (t a r:Nat):Obj:={ cls:=.type "code",data:=.fields #[.str n t,.str n (t+1),.str "/claim/cut.py" (t+2),.int a 0,.int 0 0,.int 0 0,.int 0 0,.int 0 0,.ref r,.bool false,.int 181 0,.ref (r+1),.none,.none,.none,.none,.int (t+3:Nat) 0,.int a 0,.str "/claim/cut.py" (t+4)] }
noncomputable def ty (n:Str) (a b t:Nat):Obj:={ cls:=.type "type",data:=.cls { name:=n,bases:=[.ref 380],mro:=[.ref a,.ref 380,.type "object"],ns:=a - 1,qualname:=n },slots:=#[some (.ref b),none,some (.str n t),some (.str n (t+8)),some (.builtin "object.__new__"),some (.bool true)] }
def oA (n q:Str) (s:Stmt):Obj:={ cls:=.none,data:=.func { name:=n,qualname:=q,params:=dR s,body:=.stmts (bJ s),scope:=av s,globals:=0,closure:=[],defaults:=.none,kwdefaults:=.none } }
def dA (n q:Str) (s:Stmt) (m:Str) (u i t l k:Nat) (v:List Str):List Obj:=[tu [],nf [],tu (vt (t+3) v),tu [],oA n q s,ca n q t l k i (t+3+v.length),fo n q s m u (i+5)]
def dN (n q:Str) (s:Stmt) (m:Str) (u i t l k:Nat):List Obj:=[tu [],nf [],oA n q s,cn n q t l k i (t+3),fo n q s m u (i+3)]
def nE (P:Params):List DictEntry:=[en P "__doc__" 166 .none,en P "__package__" 167 .none,en P "__loader__" 168 (.builtin "__main__.__loader__#opaque"),en P "__spec__" 169 .none,er P "__annotations__" 170 6,er P "__builtins__" 171 4,en P "__file__" 173 (.str ("/claim/cut.py") 172),en P "__cached__" 174 .none,er P "_wall" 193 21,er P "side_at" 203 28,er P "side_joined" 211 35,er P "side_narrowed" 219 42,er P "still_swath" 225 47,er P "frame_at" 231 52,er P "frames_joined" 237 57,er P "frames_narrowed" 243 62,er P "thing_handle" 252 69,er P "thing_swath" 259 76,er P "thing_marks" 266 83,er P "thing_worth" 273 90,er P "thing_box" 281 97,er P "told_cover" 288 104,er P "told_heart" 295 111,er P "told_some" 302 118,er P "told_every" 309 125,er P "told_least" 316 132,er P "told_most" 323 139,er P "thing_told" 333 146,er P "told_poured" 341 153,er P "tolds_poured" 350 160,er P "is_leaf" 359 167,er P "page_told" 366 174,er P "page_parts" 373 181,er P "things_tolds" 379 186,er P "make_leaf" 386 193,er P "things_in" 395 200,er P "WORDS" 407 201,er P "want_word" 416 208,er P "cut_from" 429 215,er P "want_cut" 440 222,er P "paper_of" 446 227,er P "suiting_in" 452 232,er P "things_of_row" 462 239,er P "handles_of" 468 244,er P "all_that" 475 250,er P "sides_meet" 485 257,er P "side_inside" 493 264,er P "side_gap" 501 271,er P "boxes_meet" 507 276,er P "box_inside" 513 281,er P "box_gap" 519 286,er P "beats_of" 533 293,er P "beats_below" 542 300,er P "meeting" 555 307,er P "verdict_from" 565 314,er P "cover_at" 573 321,er P "heart_at" 581 328,er P "has_each" 589 335,er P "has_one" 597 342,er P "crosses_box" 607 349,er P "Want" 652 380,er P "Anything" 693 415,er P "Meets" 743 455,er P "Inside" 793 495,er P "Holds" 843 535,er P "Near" 897 575,er P "Marked" 947 615,er P "Touched" 997 655,er P "Crosses" 1053 695,er P "Worthy" 1103 735,er P "Both" 1156 775,er P "Either" 1209 815,er P "Unless" 1260 855,er P "_law_cell_at" 1270 864,er P "_law_draw" 1281 871,er P "_law_scale" 1288 878,er P "_law_side_by" 1300 885,er P "_law_thing_by" 1306 890,er P "_law_things_by" 1312 895,er P "_law_at" 1318 900,er P "_law_touch" 1327 907,er P "_law_lies_in" 1336 914,er P "_law_gap_of" 1347 921,er P "_law_box_by" 1359 928,er P "_law_atom_by" 1372 935,er P "_law_plain_by" 1384 942,er P "_law_atom_of" 1391 949,er P "_law_want_of" 1398 956,er P "_law_atom_suits" 1404 961,er P "_law_suits" 1413 968,er P "_law_number" 1420 975,er P "_law_numbers" 1426 980,er P "_law_is_paper" 1434 987,er P "_law_word_fits" 1443 994,er P "law" 1449 999]
def nO (P:Params) (v:Value) (k:Nat):Obj:=dc (en P "__name__" 165 v::(nE P).take k) (k+1)
noncomputable def kE:List (Nat×Nat):=[(1,20),(5,27),(7,34),(9,41),(11,46),(13,51),(15,56),(17,61),(20,68),(22,75),(24,82),(26,89),(28,96),(30,103),(32,110),(34,117),(36,124),(38,131),(40,138),(42,145),(47,152),(53,159),(59,166),(61,173),(63,180),(65,185),(67,192),(69,199),(78,207),(82,214),(89,221),(91,226),(93,231),(95,238),(101,243),(106,249),(110,256),(112,263),(114,270),(116,275),(118,280),(120,285),(124,292),(136,299),(140,306),(147,313),(153,320),(155,327),(157,334),(159,341),(161,348),(163,355),(173,390),(183,423),(196,463),(209,503),(222,543),(238,583),(251,623),(264,663),(281,703),(294,743),(309,783),(324,823),(339,863),(343,870),(347,877),(349,884),(354,889),(359,894),(366,899),(368,906),(373,913),(378,920),(384,927),(390,934),(406,941),(419,948),(437,955),(445,960),(464,967),(472,974),(474,979),(476,986),(483,993),(493,998)]
noncomputable def wO (k:Nat):Obj:={ cls:=.type "type",data:=.cls { name:="Want",bases:=[.type "object"],mro:=[.ref 380,.type "object"],ns:=379,qualname:="Want",subclasses:=(List.map Value.ref [415,455,495,535,575,615,655,695,735,775,815,855]).take k },slots:=#[none,none,some (.str "Want" 608),some (.str "Want" 616),some (.builtin "object.__new__"),some (.bool true)] }
def kc (P:Params) (n:Str) (j A T L s v w:Nat) (fs vs:List Str) (i c:Nat):List Obj:=
 (λ(z:List DictEntry)=>[tu [.ref 380],pr,dc (en P "__module__" T (.str ("driftwood.wants") 556)::en P "__qualname__" (T+2) (.str n (T+1))::en P "__firstlineno__" (T+4) (.int L (T+3))::z) 8,tu [],nf (kl 4 [(L+2,A - 25),(s,A - 18),(v,A - 11),(w,A - 4)]),cc n (T - 5) L (A - 34),fr (A - 32) (A - 35) "driftwood.wants" 556] ++
 dA "__init__" (n++".__init__") (dS j 0) mG 556 (A - 30) (T+5) (L+2) (fs.length+1) ("self"::fs)++dA "suits" (n++".suits") (dS j 1) mG 556 (A - 23) (i+1) s 3 ["self","thing","beat"]++dA "verdict" (n++".verdict") (dS j 2) mG 556 (A - 16) (i+10) v 3 ("self"::"told"::"beat"::vs)++dA "written" (n++".written") (dS j 3) mG 556 (A - 9) (c+1) w 1 ["self"] ++
 [tu (vt (c+8) fs),dc (en P "__module__" T (.str ("driftwood.wants") 556)::en P "__firstlineno__" (T+4) (.int L (T+3))::z++[en P "__doc__" (c+9+fs.length) .none]) 2,ty n A (A - 37) (T - 7),su A,ic A]) [er P "__init__" i (A - 24),er P "suits" (i+9) (A - 17),er P "verdict" c (A - 10),er P "written" (c+7) (A - 3),er P "__static_attributes__" (c+8+fs.length) (A - 2)]
def kC (P:Params) (n:Str) (j A T L s v w:Nat) (fs vs:List Str):List Obj:=kc P n j A T L s v w fs vs (T+11+fs.length) (T+29+fs.length+vs.length)
noncomputable def pS:Stmt->Str|.FunctionDef n _ _ _ _ _ _ _ _ _=>n|_=>Str.empty
noncomputable def BZ:Stmt->Nat|.FunctionDef _ _ _ _ _ _ _ _ _ p=>p.line|_=>0
def wy (s:Stmt):List Str:=((av s).names.filter λp=>p.2 == .local).map (·.1)
def gF (m:Str) (u:Nat):Nat->Nat->List Int->List Obj
 | _,_,[]=>[]
 | i,t,.ofNat p::l=>dA (pS (top p)) (pS (top p)) (top p) m u i t (BZ (top p)) (dR (top p)).args.length (wy (top p))++gF m u (i+7) (t+6+(wy (top p)).length) l
 | i,t,.negSucc p::l=>dN (pS (top (p+1))) (pS (top (p+1))) (top (p+1)) m u i t (BZ (top (p+1))) (dR (top (p+1))).args.length++gF m u (i+5) (t+6) l
def b0 (P:Params) (w:Nat):List Obj:=gF ("__main__") 164 15 187 [0] ++
 gF mA 194 22 196 [2,3,4,-5,-6,-7,-8] ++
 gF mB 244 63 246 [10,11,12,13,14]
def b1 (P:Params) (w:Nat):List Obj:=gF mB 244 98 282 [15,16,17,18,19,20,21,22,23] ++
 gF mC 351 161 353 [25,26,27,-28]
def b2 (P:Params) (w:Nat):List Obj:=gF mC 351 187 380 [29,30] ++
 [dc [en P "none" 398 (.str ("shut") 399),en P "every" 400 (.str ("whole") 401),en P "open" 402 (.str ("open") 403)] 3] ++
 gF mD 396 202 408 [33,34] ++
 [tu [],{ cls:=.none,data:=.fields #[] },tu (vt 433 ["top","want","beat"]),tu (vt 436 ["want","beat"]),oA "want_cut" "want_cut" (top 35),ca "want_cut" "want_cut" 430 89 3 216 438,fo "want_cut" "want_cut" (top 35) mD 396 221] ++
 gF mD 396 223 441 [-36,-37,38,-39] ++
 [{ cls:=.type "tuple",data:=.seq #[.int 0 469] },tu [],{ cls:=.none,data:=.fields #[] },oA "all_that" "all_that" (top 40),cn "all_that" "all_that" 470 106 3 246 473,B5 "all_that" "all_that" (top 40) mD 396 249 245] ++
 gF mE 476 251 478 [42]
def b3 (P:Params) (w:Nat):List Obj:=gF mE 476 258 486 [43,44,-45,-46,-47] ++
 gF mF 520 287 522 [49,50,51] ++
 gF mG 556 308 558 [53,54,55,56,57,58] ++
 [tu [],pr,dc [en P "__module__" 615 (.str ("driftwood.wants") 556),en P "__qualname__" 617 (.str ("Want") 616),en P "__firstlineno__" 619 (.int 163 618),er P "suits" 628 363,er P "verdict" 637 370,er P "written" 644 377,er P "__static_attributes__" 645 378] 7,tu [],nf (kl 4 [(165,362),(168,369),(171,376)]),cc "Want" 610 163 353,fr 355 352 "driftwood.wants" 556] ++
 dA "suits" "Want.suits" (dS 59 0) mG 556 357 620 165 3 ["self","thing","beat"] ++
 dA "verdict" "Want.verdict" (dS 59 1) mG 556 364 629 168 3 ["self","told","beat"] ++
 dA "written" "Want.written" (dS 59 2) mG 556 371 638 171 1 ["self"] ++
 [tu [],dc [en P "__module__" 615 (.str ("driftwood.wants") 556),en P "__firstlineno__" 619 (.int 163 618),er P "suits" 628 363,er P "verdict" 637 370,er P "written" 644 377,er P "__static_attributes__" 645 378,er P "__dict__" 647 381,er P "__weakref__" 649 382,en P "__doc__" 650 .none] 4,wO w,{ cls:=.type "getset_descriptor",data:=.fields #[.str ("__dict__") 646,.ref 380,.builtin "function.__dict__",.builtin "function.__dict__#set"] },{ cls:=.type "getset_descriptor",data:=.fields #[.str ("__weakref__") 648,.ref 380,.builtin "ExceptionGroup.__weakref__",.none] },su 380,ic 380]
def b4 (P:Params) (w:Nat):List Obj:=[tu [.ref 380],pr,dc [en P "__module__" 660 (.str ("driftwood.wants") 556),en P "__qualname__" 662 (.str ("Anything") 661),en P "__firstlineno__" 664 (.int 173 663),er P "suits" 673 398,er P "verdict" 682 405,er P "written" 689 412,er P "__static_attributes__" 690 413] 7,tu [],nf (kl 4 [(175,397),(178,404),(181,411)]),cc "Anything" 655 173 388,fr 390 387 "driftwood.wants" 556] ++
 dA "suits" "Anything.suits" (dS 60 0) mG 556 392 665 175 3 ["self","thing","beat"] ++
 dA "verdict" "Anything.verdict" (dS 60 1) mG 556 399 674 178 3 ["self","told","beat"] ++
 dA "written" "Anything.written" (dS 60 2) mG 556 406 683 181 1 ["self"] ++
 [tu [],dc [en P "__module__" 660 (.str ("driftwood.wants") 556),en P "__firstlineno__" 664 (.int 173 663),er P "suits" 673 398,er P "verdict" 682 405,er P "written" 689 412,er P "__static_attributes__" 690 413,en P "__doc__" 691 .none] 2,ty "Anything" 415 385 653,su 415,ic 415] ++
 kC P "Meets" 61 455 701 183 188 191 194 ["box"] []
def b5 (P:Params) (w:Nat):List Obj:=kC P "Inside" 62 495 751 196 201 204 207 ["box"] [] ++
 kC P "Holds" 63 535 801 209 214 217 220 ["box"] []
def b6 (P:Params) (w:Nat):List Obj:=kC P "Near" 64 575 851 222 228 231 236 ["box","far"] ["farthest","nearest"] ++
 kC P "Marked" 65 615 905 238 243 246 249 ["marks"] []
def b7 (P:Params) (w:Nat):List Obj:=kC P "Touched" 66 655 955 251 256 259 262 ["marks"] [] ++
 kC P "Crosses" 67 695 1005 264 271 274 279 ["box","first","last"] ["heart_does","cover_does"]
def b8 (P:Params) (w:Nat):List Obj:=kC P "Worthy" 68 735 1061 281 286 289 292 ["least"] [] ++
 kC P "Both" 69 775 1111 294 300 303 307 ["one","two"] ["judged"]
def b9 (P:Params) (w:Nat):List Obj:=kC P "Either" 70 815 1164 309 315 318 322 ["one","two"] ["judged"] ++
 kC P "Unless" 71 855 1217 324 329 332 336 ["one"] ["judged"] ++
 gF mH 1261 858 1263 [73]
def k4 (P:Params) (w:Nat):List Obj:=gF mH 1261 865 1271 [74,75,76,-77,-78,-79,80,81,82,83,84,85,86,87,-88,89,90,-91,92,93,-94]
def b (P:Params) (v:Value) (k c w j:Nat):List Obj:=[W.boot_o_0 P,W.boot_o_1 P,W.boot_o_2 P,nO P v k,W.boot_o_4 P,W.boot_o_5 P,W.boot_o_6 P,W.boot_o_7 P,W.boot_o_8 P,W.boot_o_9 P,W.boot_o_10 P,tu [],nf (kl 0 (kE.take c)),cc "<module>" 182 1 11,fr 13 3 "__main__" 164]++(match j with|0=>[]|1=>b0 P w|2=>b0 P w++(b1 P w)|3=>b0 P w++(b1 P w++(b2 P w))|4=>b0 P w++(b1 P w++(b2 P w++(b3 P w)))|5=>b0 P w++(b1 P w++(b2 P w++(b3 P w++(b4 P w))))|6=>b0 P w++(b1 P w++(b2 P w++(b3 P w++(b4 P w++(b5 P w)))))|7=>b0 P w++(b1 P w++(b2 P w++(b3 P w++(b4 P w++(b5 P w++(b6 P w))))))|8=>b0 P w++(b1 P w++(b2 P w++(b3 P w++(b4 P w++(b5 P w++(b6 P w++(b7 P w)))))))|9=>b0 P w++(b1 P w++(b2 P w++(b3 P w++(b4 P w++(b5 P w++(b6 P w++(b7 P w++(b8 P w))))))))|10=>b0 P w++(b1 P w++(b2 P w++(b3 P w++(b4 P w++(b5 P w++(b6 P w++(b7 P w++(b8 P w++(b9 P w)))))))))|_=>b0 P w++(b1 P w++(b2 P w++(b3 P w++(b4 P w++(b5 P w++(b6 P w++(b7 P w++(b8 P w++(b9 P w++(k4 P w)))))))))))
noncomputable def sp:List Obj->List Obj×List Obj|[]=>([],[])|a::l=>(a::(sp l).2,(sp l).1)
def bt:Nat->List Obj->W.BT|0,_=>.nil|_+1,[]=>.nil|n+1,a::l=>.node a (bt n (sp l).1) (bt n (sp l).2)
noncomputable def st (t:W.BT) (n k:Nat) (os:OsState):W.SharedT:=⟨t,n,{},⟨[]⟩,{},k,os⟩
def i0 (P:Params):List Obj:=[W.boot_o_0 P,W.boot_o_1 P,W.boot_o_2 P,W.boot_o_3 P,W.boot_o_4 P,W.boot_o_5 P,W.boot_o_6 P,W.boot_o_7 P,W.boot_o_8 P,W.boot_o_9 P,W.boot_o_10 P,tu [],nf [],cc "<module>" 182 1 11,fr 13 3 "__main__" 164]
def l1 (P:Params):List Obj:=b P (.str "driftwood.things" 244) 21 13 0 1
def l2 (P:Params):List Obj:=b P (.str "driftwood.pages" 351) 34 26 0 2
def l3 (P:Params):List Obj:=b P (.str "driftwood.boxes" 476) 46 37 0 3
def l4 (P:Params):List Obj:=b P (.str "driftwood.wants" 556) 61 52 0 4
def l5 (P:Params):List Obj:=b P (.str "driftwood.wants" 556) 63 54 2 5
def l6 (P:Params):List Obj:=b P (.str "driftwood.wants" 556) 65 56 4 6
def l7 (P:Params):List Obj:=b P (.str "driftwood.wants" 556) 67 58 6 7
def l8 (P:Params):List Obj:=b P (.str "driftwood.wants" 556) 69 60 8 8
def l9 (P:Params):List Obj:=b P (.str "driftwood.wants" 556) 71 62 10 9
def pV (P:Params):List Obj:=b P (.str "law_driftwood_k37_one_leaf" 1261) 74 65 12 10
def fX (P:Params):List Obj:=b P (.str "law_driftwood_k37_one_leaf" 1261) 95 86 12 11
noncomputable abbrev pp:Program:=lw.row.toRowW.prog
def ev:Env:={ scope:=pp.main.scope,locals:=mainNs,globals:=mainNs,cells:=[],code:=.ref 13,frame:=some 14 }
abbrev cE:Code:=.body (W.behindTheImports pp) ev
abbrev po (a b c d:Nat):Pos:=⟨a,b,c,d⟩
abbrev B0:List Frame:=[W.topFrame (po 0 0 0 0)]
noncomputable def s1:List Stmt:=c0::c1::c2::c3::c4::c5::c6::c7::c8::c9::vQ::vP::vO::hR::k0::[]
noncomputable def s2:List Stmt:=vN::vM::vL::vK::vJ::vI::vH::vG::vF::Cf::vE::vD::vC::vB::[]
noncomputable def s3:List Stmt:=vA::vz::Ce::vy::vx::vw::vq::vp::vo::vn::vm::Cd::Cb::vk::[]
noncomputable def s4:List Stmt:=vj::vi::vh::vg::ve::Ca::vd::vc::vb::B9::va::u9::u7::u6::uZ::uY::uX::[]
noncomputable def s5:List Stmt:=uW::uV::[]
noncomputable def s6:List Stmt:=uU::uT::[]
noncomputable def s7:List Stmt:=uS::uR::[]
noncomputable def s8:List Stmt:=uQ::uP::[]
noncomputable def s9:List Stmt:=uO::uN::[]
noncomputable def wG:List Stmt:=uM::uL::B8::uK::[]
noncomputable def wF:List Stmt:=uJ::uI::uH::uG::uF::uE::uD::uC::uB::uA::uy::ux::uw::uu::ur::uq::uo::um::uk::uh::ug::[]
noncomputable abbrev sh (h:Heap) (k:Nat) (os:OsState):Shared:=⟨h,⟨[]⟩,{},k,os⟩
def h0 (P:Params):Heap:=⟨(i0 P).toArray,{}⟩
def hZ (P:Params):Heap:=⟨(fX P).toArray,{}⟩
theorem q0 (w:World):(λos=>W.topGo treeTable pp w 11 (some (.ref 6)) 12 ⟨W.boot_heap w.params,⟨[]⟩,W.boot_drawn,W.boot_toks,os⟩ (W.topStub pp))=λos=>some (sh (h0 w.params) 187 os,⟨denote treeTable cE,cE,po 0 0 0 0,B0⟩):=by kernel_rfl
theorem qb (w:World):(λos=>W.segRun treeTable pp w 11 (some (.ref 6)) 1 1 (sh (h0 w.params) 187 os) (W.blockOf (W.behindTheImports pp) ev cE (po 0 0 0 0) B0))=λos=>some (.next,(st (bt 12 (i0 w.params)) 15 187 os).abs,cE,po 0 0 0 0):=by kernel_rfl
theorem q1 (w:World):(λos=>W.segRunT treeTable pp w 11 (some (.ref 6)) 1 408 (st (bt 12 (i0 w.params)) 15 187 os) (W.piecesOf s1 ev cE (po 0 0 0 0) B0))=λos=>some (.next,st (bt 12 (l1 w.params)) 98 282 os,cE,po 28 0 29 45):=by kernel_rfl
theorem q2 (w:World):(λos=>W.segRunT treeTable pp w 11 (some (.ref 6)) 1 410 (st (bt 12 (l1 w.params)) 98 282 os) (W.piecesOf s2 ev cE (po 28 0 29 45) B0))=λos=>some (.next,st (bt 12 (l2 w.params)) 187 380 os,cE,po 65 0 66 57):=by kernel_rfl
theorem q3:∀w:World,(λos=>W.segRunT treeTable pp w 11 (some (.ref 6)) 1 421 (st (bt 12 (l2 w.params)) 187 380 os) (W.piecesOf s3 ev cE (po 65 0 66 57) B0))=λos=>some (.next,st (bt 12 (l3 w.params)) 258 486 os,cE,po 110 0 111 48):=W.byRow2 "special-get-raises" (λw=>by kernel_rfl) (λw=>by kernel_rfl)
theorem q4 (w:World):(λos=>W.segRunT treeTable pp w 11 (some (.ref 6)) 1 746 (st (bt 12 (l3 w.params)) 258 486 os) (W.piecesOf s4 ev cE (po 110 0 111 48) B0))=λos=>some (.next,st (bt 12 (l4 w.params)) 385 653 os,cE,po 163 0 172 16):=by kernel_rfl
theorem q5 (w:World):(λos=>W.segRunT treeTable pp w 11 (some (.ref 6)) 1 673 (st (bt 12 (l4 w.params)) 385 653 os) (W.piecesOf s5 ev cE (po 163 0 172 16) B0))=λos=>some (.next,st (bt 12 (l5 w.params)) 458 744 os,cE,po 183 0 195 16):=by kernel_rfl
theorem q6 (w:World):(λos=>W.segRunT treeTable pp w 11 (some (.ref 6)) 1 706 (st (bt 12 (l5 w.params)) 458 744 os) (W.piecesOf s6 ev cE (po 183 0 195 16) B0))=λos=>some (.next,st (bt 12 (l6 w.params)) 538 844 os,cE,po 209 0 221 16):=by kernel_rfl
theorem q7 (w:World):(λos=>W.segRunT treeTable pp w 11 (some (.ref 6)) 1 710 (st (bt 12 (l6 w.params)) 538 844 os) (W.piecesOf s7 ev cE (po 209 0 221 16) B0))=λos=>some (.next,st (bt 12 (l7 w.params)) 618 948 os,cE,po 238 0 250 16):=by kernel_rfl
theorem q8 (w:World):(λos=>W.segRunT treeTable pp w 11 (some (.ref 6)) 1 712 (st (bt 12 (l7 w.params)) 618 948 os) (W.piecesOf s8 ev cE (po 238 0 250 16) B0))=λos=>some (.next,st (bt 12 (l8 w.params)) 698 1054 os,cE,po 264 0 280 16):=by kernel_rfl
theorem q9 (w:World):(λos=>W.segRunT treeTable pp w 11 (some (.ref 6)) 1 709 (st (bt 12 (l8 w.params)) 698 1054 os) (W.piecesOf s9 ev cE (po 264 0 280 16) B0))=λos=>some (.next,st (bt 12 (l9 w.params)) 778 1157 os,cE,po 294 0 308 17):=by kernel_rfl
theorem fy (w:World):(λos=>W.segRunT treeTable pp w 11 (some (.ref 6)) 1 749 (st (bt 12 (l9 w.params)) 778 1157 os) (W.piecesOf wG ev cE (po 294 0 308 17) B0))=λos=>some (.next,st (bt 12 (pV w.params)) 865 1271 os,cE,po 339 0 342 12):=by kernel_rfl
theorem hJ (w:World):(λos=>W.segRunT treeTable pp w 11 (some (.ref 6)) 1 651 (st (bt 12 (pV w.params)) 865 1271 os) (W.piecesOf wF ev cE (po 339 0 342 12) B0))=λos=>some (.next,st (bt 12 (fX w.params)) 1000 1450 os,cE,po 493 0 515 64):=by kernel_rfl
theorem qf (w:World):(λos=>W.topRun treeTable pp w 11 (some (.ref 6)) 2 (st (bt 12 (fX w.params)) 1000 1450 os).abs ⟨W.doneF .next,cE,po 493 0 515 64,B0⟩)=λos=>some (sh (hZ w.params) 1450 os):=by kernel_rfl
theorem hs:W.behindTheImports pp=s1++(s2++(s3++(s4++(s5++(s6++(s7++(s8++(s9++(wG++(wF++[])))))))))):=by kernel_rfl
theorem run (w:World) (os:OsState):W.topRun treeTable pp w 11 (some (.ref 6)) (12+(1+(408+(410+(421+(746+(673+(706+(710+(712+(709+(749+(651+2))))))))))))) ⟨W.boot_heap w.params,⟨[]⟩,W.boot_drawn,W.boot_toks,os⟩ (W.topStub pp)=some (sh (hZ w.params) 1450 os):=
 W.go_top (congrFun (q0 w) os) (W.piece_block (congrFun (qb w) os) (Eq.subst (motive:=λb=>W.topRun treeTable pp w 11 (some (.ref 6)) _ _ (W.restOf b ev cE (po 0 0 0 0) B0)=_) hs.symm (W.piece_app (W.segRun_of (congrFun (q1 w) os)) (W.piece_app (W.segRun_of (congrFun (q2 w) os)) (W.piece_app (W.segRun_of (congrFun (q3 w) os)) (W.piece_app (W.segRun_of (congrFun (q4 w) os)) (W.piece_app (W.segRun_of (congrFun (q5 w) os)) (W.piece_app (W.segRun_of (congrFun (q6 w) os)) (W.piece_app (W.segRun_of (congrFun (q7 w) os)) (W.piece_app (W.segRun_of (congrFun (q8 w) os)) (W.piece_app (W.segRun_of (congrFun (q9 w) os)) (W.piece_app (W.segRun_of (congrFun (fy w) os)) (W.piece_app (W.segRun_of (congrFun (hJ w) os)) (W.piece_nil (congrFun (qf w) os)))))))))))))))
noncomputable def ad:List Nat:=3::4::27::28::34::35::41::42::46::47::51::52::56::57::61::62::68::69::75::76::82::83::89::90::96::97::103::104::110::111::117::118::124::125::131::132::138::139::145::146::152::153::159::160::166::167::173::174::180::181::185::186::192::193::199::200::201::207::208::214::215::221::222::226::227::231::232::238::239::243::244::245::249::250::256::257::263::264::270::271::275::276::280::281::285::286::292::293::299::300::306::307::313::314::320::321::327::328::334::335::341::342::348::349::379::380::381::382::397::398::404::405::414::415::430::431::437::438::444::445::454::455::470::471::477::478::484::485::494::495::510::511::517::518::524::525::534::535::550::551::557::558::564::565::574::575::590::591::597::598::604::605::614::615::630::631::637::638::644::645::654::655::670::671::677::678::684::685::694::695::710::711::717::718::724::725::734::735::750::751::757::758::764::765::774::775::790::791::797::798::804::805::814::815::830::831::837::838::844::845::854::855::863::864::870::871::877::878::884::885::889::890::894::895::899::900::906::907::913::914::920::921::927::928::934::935::941::942::948::949::955::956::960::961::967::968::974::975::979::980::986::987::993::994::998::999::[]
def heap (P:Params):Frag:=ad.map λa=>(a,(fX P).getD a default)
end Dw.K37
section
open PySem PySem.W PyProof.Rows
namespace Dw.K37
def hk:Hook:=kmHook heap ad (λ_=>by kernel_rfl) (217::[])
noncomputable def lo:List Str:="WORDS"::"all_that"::[]
noncomputable def q:Program:={ lw.prog with main:={ lw.prog.main with body:=c0::c2::c3::c4::c5::c6::c7::c8::vQ::vP::vO::hR::k0::vN::vM::vL::vK::vJ::vI::vH::vG::vF::vE::vD::vC::vB::vA::vz::vy::vx::vw::vq::vp::vo::vn::vm::vk::vj::vi::vh::vg::ve::vd::vc::vb::va::u9::u7::u6::uZ::uY::uX::uW::uV::uU::uT::uS::uR::uQ::uP::uO::uN::uM::uL::uK::uJ::uI::uH::uG::uF::uE::uD::uC::uB::uA::uy::ux::uw::uu::ur::uq::uo::um::uk::uh::ug::[] } }
noncomputable def qd (o:Obj):Bool:=match o.data with|.freed=>false|_=>true
theorem qPq {l:List Obj}{ad:List Nat}(h:ad.all (·<l.length)=true) (g:l.all qd=true):ad.map (Heap.get? ⟨l.toArray,{}⟩)=(ad.map λa=>(a,l.getD a default)).map λp=>some p.2:=by
 rw [List.map_map]
 refine qB λa ha=>?_
 have e:=Qp (yaH.mp h a ha)
 have v:=yaH.mp g l[a] (iY e)
 show Heap.get? ⟨l.toArray,{}⟩ a=some (l.getD a default)
 unfold Heap.get?
 simp only [List.getElem?_toArray,List.getD,eJ e,Option.getD_some]
 split
 ·rename_i z
  injection z with z
  rw [z] at v
  cases v
 ·rfl
theorem qPZ {K:Params->Frag}{as ts:List Addr}{e:∀P,as=(K P).map (·.1)}{w:World}{s:Shared}{l:List Obj}(hK:K w.params=as.map λa=>(a,l.getD a default)) (hs:s.heap=⟨l.toArray,{}⟩) (h:as.all (·<l.length)=true) (g:l.all qd=true) (ht:ts.map (Heap.get? ⟨l.toArray,{}⟩)=ts.map λ_=>some (tabObj #[])):(kmHook K as e ts).obs s=(kmHook K as e ts).val w:=by
 show (as.map s.heap.get?,ts.map s.heap.get?)=((K w.params).map λp=>some p.2,_)
 rw [hK,hs,ht]
 exact congrArg (·,_) (qPq h g)
theorem qPG {α β γ:Type}{f:OsState->α}{g:OsState->β}{h:OsState->γ}{a:α}{b:β}{c:γ}(h1:f=λ_=>a) (h2:g=λ_=>b) (h3:h=λ_=>c):(λos=>(f os,g os,h os))=λ_=>(a,b,c):=by
 subst h1 h2 h3
 rfl
theorem ya (w:World):(λos:OsState=>(staticsOk (importedModules lw.row.toRowW.prog.main.body) (boot_heap w.params) (hZ w.params)&&namesBound lw.row.toRowW.prog (hZ w.params)&&gensDone ⟨hZ w.params,⟨[]⟩,{},1450,os⟩&&laidKept (boot_heap w.params) (hZ w.params)))=λ_=>true:=by kernel_rfl
abbrev zS (w:World) (os:OsState):Shared:=⟨hZ w.params,⟨[]⟩,{},1450,os⟩
theorem qRE {q:Program}{loose mods:List Str}{Xt:Shared->Bool}{s:Shared}(h1:seen ((recsOf q).map (·.name)) (ownsOf q) [] { s with gens:=#[] }=expectedOf q) (h2:s.heap.bltView=bltViewBooted)
  (h3:(s.heap.keysOk (looseW q loose) ((recsOf q).map (·.name)) ((litsOf q).map (·.1)) ((clssOf q (looseW q loose)).map (·.name))&&s.heap.accountedOkI mods&&s.heap.isNs mainGlobals&&s.heap.isNs builtinsNs&&tablesOk q s.heap&&Xt s&&(if true then s.gens.size == 0 else !leftWithCleanup s.gens))=true)
  (h4:tabsOk q s=true) (h5:pinSeenD q (drecsOf q) s=pinGoodD (drecsOf q)) (h6:plainSeenE q (looseW q loose) s=plainGoodE q (looseW q loose)) (h7:plainSeenD q loose s=plainGoodD q loose) (h8:wideSeen q s=wideGood q) (h9:clsSeenW q loose s=clsGoodW q loose):openSeen q loose mods Xt true s=openGood q loose:=by
 unfold openSeen openGood
 rw [h1,h2,h3,h4,h5,h6,h7,h8,h9]
theorem y1 (w:World) (os:OsState):seen ((recsOf q).map (·.name)) (ownsOf q) [] { (zS w os) with gens:=#[] }=expectedOf q:=by kernel_rfl
theorem y2 (w:World) (os:OsState):(zS w os).heap.bltView=bltViewBooted:=by kernel_rfl
theorem y3 (w:World) (os:OsState):((zS w os).heap.keysOk (looseW q lo) ((recsOf q).map (·.name)) ((litsOf q).map (·.1)) ((clssOf q (looseW q lo)).map (·.name))&&(zS w os).heap.accountedOkI (importedModules lw.row.toRowW.prog.main.body)&&(zS w os).heap.isNs mainGlobals&&(zS w os).heap.isNs builtinsNs&&tablesOk q (zS w os).heap&&(xlAt q [] (zS w os)&&recOk (RowW.records lw.row.toRowW) (zS w os))&&(if true then (zS w os).gens.size == 0 else !leftWithCleanup (zS w os).gens))=true:=by kernel_rfl
theorem y4 (w:World) (os:OsState):tabsOk q (zS w os)=true:=by kernel_rfl
theorem y5 (w:World) (os:OsState):pinSeenD q (drecsOf q) (zS w os)=pinGoodD (drecsOf q):=by kernel_rfl
theorem y6 (w:World) (os:OsState):plainSeenE q (looseW q lo) (zS w os)=plainGoodE q (looseW q lo):=by kernel_rfl
theorem y7 (w:World) (os:OsState):plainSeenD q lo (zS w os)=plainGoodD q lo:=by kernel_rfl
theorem y8 (w:World) (os:OsState):wideSeen q (zS w os)=wideGood q:=by kernel_rfl
theorem y9 (w:World) (os:OsState):clsSeenW q lo (zS w os)=clsGoodW q lo:=by kernel_rfl
theorem yb (w:World):(λos:OsState=>openSeen q lo (importedModules lw.row.toRowW.prog.main.body) (λs=>xlAt q [] s&&recOk (RowW.records lw.row.toRowW) s) true ⟨hZ w.params,⟨[]⟩,{},1450,os⟩)=λ_=>openGood q lo:=funext λos=>qRE (s:=zS w os) (y1 w os) (y2 w os) (y3 w os) (y4 w os) (y5 w os) (y6 w os) (y7 w os) (y8 w os) (y9 w os)
theorem yc (w:World):ad.all (·<(fX w.params).length)=true:=by kernel_rfl
theorem yd (w:World):(fX w.params).all qd=true:=by kernel_rfl
theorem yt (w:World):[217].map (Heap.get? ⟨(fX w.params).toArray,{}⟩)=[217].map λ_=>some (tabObj #[]):=by kernel_rfl
theorem yo (w:World) (os:OsState):Hook.obs hk ⟨hZ w.params,⟨[]⟩,{},1450,os⟩=Hook.val hk w:=qPZ (K:=heap) (as:=ad) (l:=fX w.params) rfl rfl (yc w) (yd w) (yt w)
theorem hl:LeftO lw.row.toRowW.prog q lo (λs=>xlAt q [] s&&recOk (RowW.records lw.row.toRowW) s) (Hook.obs hk) (Hook.val hk) 8000:=
 LeftO.of_pieces (H₀:=boot_heap) (H₁:=hZ) (gs₀:=⟨[]⟩) (gs₁:=⟨[]⟩) (d₀:=boot_drawn) (d₁:={}) (k₀:=boot_toks) (k₁:=1450) (m₀:=11) (ann:=some (.ref 6)) (boot_open (by kernel_rfl) rfl λs=>rfl) (λw=>by kernel_rfl) run (by kernel_rfl) λw=>qPG (ya w) (yb w) (funext λos=>yo w os)
theorem sN:namesResolve lw.row.toRowW.prog=true:=by kernel_rfl
theorem sM:namesMeet lw.row.toRowW.prog lw.row.toRowW.prog.main.body (λ_ n=>attrL n)=true:=by kernel_rfl
theorem sA:looksOpen lw.row.toRowW.prog=true:=by
 unfold looksOpen
 rw [sN,sM]
 kernel_rfl
theorem sB:lw.row.wellSaid=true:=by
 unfold OpenRow.wellSaid OpenRow.partSaid
 rw [sA]
 kernel_rfl
theorem said:lw.wellSaid=true:=by
 unfold OpenLaw.wellSaid
 rw [sB]
 kernel_rfl
end Dw.K37
end
namespace Dw
open PySem
structure Kn where
 c:Nat
 ns:List Str
 deriving DecidableEq,Inhabited
inductive D where
 | non|bl (b:Bool)|int (i:Int)|str (x:Str)|tup (ds:List D)|lst (ds:List D)
  | dct (m:Bool) (ks:List Int)
  | obj (ns:Kn) (ds:List D)
 deriving Inhabited
inductive BOp where|add|sub|mul|fdiv|mod|pow|shl|shr|band|bor|bxor
 deriving DecidableEq,Inhabited
inductive COp where|eq|ne|lt|le|gt|ge|isin|notin
 deriving DecidableEq,Inhabited
inductive BI where|len|abs|min|max|sum|all|tuple|list|int|any|str|sorted
 deriving DecidableEq,Inhabited
inductive Ty where|int|bool|tuple|list|str
 deriving DecidableEq,Inhabited
inductive Tg where|one (i:Nat)|two (i j:Nat)|many (is:List Nat)
 deriving DecidableEq,Inhabited
inductive Ar where|pos (i:Nat)|kw (i:Nat)|dft (j:Nat) (d:D)
 deriving Inhabited
inductive C where
 | v (i:Nat)
 | k (d:D)
 | bin (o:BOp) (a b:C)
 | neg (a:C)
 | cmp (o:COp) (a b:C)
 | isC (neg:Bool) (a:C) (d:D)
 | and (a b:C)|or (a b:C)|not (a:C)
 | ix (a b:C)
 | sl (a:C) (lo hi:Option C)
 | tup (as:List C)|lst (as:List C)
 | call (f:Nat) (as:List C)
 | bi (b:BI) (as:List C)
 | isi (a:C) (t:Ty)
 | bitl (a:C)
 | ifx (c a b:C)
 | rev (a:C)
 | join (a b:C)
 | fstr (as:List C)
 | chn (o p:COp) (a b c:C)
 | callP (f:Nat) (as ks:List C) (pl:List Ar)
 | compS (e:C) (nl:Nat) (ks:List Nat) (tg:Tg) (src:C)
 | compR (e:C) (nl:Nat) (ks:List Nat) (tg:Tg) (rs:List C)
 | compZ (e:C) (nl:Nat) (ks:List Nat) (tg:Tg) (a b:C)
 | compE (e:C) (nl:Nat) (ks:List Nat) (tg:Tg) (a:C)
 | compF (e c:C) (nl:Nat) (ks:List Nat) (tg:Tg) (src:C)
 | compG (e c:C) (nl:Nat) (ks:List Nat) (tg:Tg) (rs:List C)
 | fld (a:C) (j:Nat) (f:Str)
 | mk (kn:Kn) (as:List C)
 | mc (a:C) (m:Str) (tb:List (Nat×Nat)) (bs:List C)
 | iso (a:C) (tb:List (Nat×Bool))
 | cntT (a:C)
 | fmt (a:C)
 | cv (i:Nat) (a:C)
 | tbl (kvs:List (Str×Str)) (a:C)
 | lamc (f:Nat) (as:List C) (j:Nat) (ks:List Nat)
 deriving Inhabited
inductive S where
 | frz (is:List Nat)
 | set (i:Nat) (keep:Bool) (e:C)
 | dnew (i:Nat)
 | aug (i:Nat) (e:C)
 | popE (i:Nat)
 | setIx (i:Nat) (k e:C)
 | hnd (i f:Nat) (as:List C)
 | forO (i x:Nat) (c:C) (body:List S)
 | app (i:Nat) (e:C)
 | ret (e:C)
 | ite (c:C) (a b:List S)
 | forS (tg:Tg) (src:C) (body:List S)
 | forR (tg:Tg) (rs:List C) (body:List S)
 | forZ (tg:Tg) (a b:C) (body:List S)
 | forE (tg:Tg) (a:C) (body:List S)
 | forV (tg:Tg) (rs:List C) (body:List S)
 | ext (i:Nat) (e:C)
 | asgT (tg:Tg) (e:C)
 | pop (tg:Tg) (i:Nat)
 | whl (c:C) (body:List S)
 | brk
 | cnt
 | stk
 deriving Inhabited
abbrev R:=Bool×D
abbrev En:=List (Option R)
mutual
@[simp] def aW:D->D->Bool
 | .non,.non=>true
 | .bl a,.bl b=>a == b
 | .bl a,.int b=>(if a then (1:Int) else 0) == b
 | .int a,.bl b=>a == (if b then (1:Int) else 0)
 | .int a,.int b=>a == b
 | .str a,.str b=>a == b
 | .tup xs,.tup ys=>gn xs ys
 | .lst xs,.lst ys=>gn xs ys
 | .dct a ks,.dct b js=>a == b&&ks == js
 | .obj a xs,.obj b ys=>a == b&&gn xs ys
 | _,_=>false
@[simp] def gn:List D->List D->Bool
 | [],[]=>true
 | x::xs,y::ys=>aW x y&&gn xs ys
 | _,_=>false
end
mutual
@[simp] noncomputable def bO:Nat->D->Bool
 | 0,.tup _=>false
 | 0,.lst _=>false
 | n+1,.tup ds=>iH n ds
 | n+1,.lst ds=>iH n ds
 | _,_=>true
@[simp] noncomputable def iH:Nat->List D->Bool
 | _,[]=>true
 | n,d::ds=>bO n d&&iH n ds
end
theorem Be {α:Type}(n:Nat) (f:α->D):∀l:List α,iH n (l.map f)=l.all λx=>bO n (f x)
 | []=>rfl
 | x::r=>by simp [Be n f r]
mutual
@[simp] noncomputable def bF:D->Bool
 | .tup ds=>cW ds
 | .lst ds=>cW ds
 | .obj _ _=>false
 | _=>true
@[simp] noncomputable def cW:List D->Bool
 | []=>true
 | d::ds=>bF d&&cW ds
end
theorem sW {α:Type}(f:α->D):∀l:List α,cW (l.map f)=l.all λx=>bF (f x)
 | []=>rfl
 | x::r=>by simp [sW f r]
@[simp] noncomputable def oh:D->D->Option Bool
 | .lst xs,.lst []=>some xs.isEmpty
 | _,_=>none
noncomputable def HX:Nat:=1000000
noncomputable def lim:Nat:=2^24
noncomputable def mU:Nat:=2^4000
noncomputable def fF:Nat:=2^1048576
noncomputable def jc:Nat:=2^1048640
def cZ (a b:Int):Bool:=decide ((a.natAbs<2^240/\b.natAbs<2^240)∨a.natAbs<2^64∨b.natAbs<2^64∨(a.natAbs<jc/\b.natAbs<jc))
def fG (b:Int):Bool:=decide (b≠0/\(b.natAbs<2^240∨b.natAbs<mU))
def qRD (a b:Int):Bool:=decide (0<=b/\b<=1000/\a.natAbs<2^64)
def fR (a b:Int):Bool:=decide (a.natAbs<2^240/\0<=b/\b<=200)
def cI (is:List Int):List Int:=is.mergeSort (λa b=>decide (a<=b))
noncomputable def wW (i:Int):Str:=Qa (toString i)
noncomputable def xR (sep:Str) (ts:List Str):Str:=⟨(ts.drop 1).foldl (λacc p=>acc++sep.cps++p.cps) (ts.headD Str.empty).cps⟩
@[simp] noncomputable def rR:List D->Option (List Str)
 | []=>some []
 | .str i::r=>(rR r).map (i::·)
 | _=>none
def qPP (sep:Str) (ts:List Str):Bool:=decide (ts.toArray.foldl (λn t=>n+t.length+sep.length) 0<=lim/\(xR sep ts).length<=lim)
@[simp] def qSd:D->D->Option R
 | .str sep,.lst xs=>(rR xs).bind λts=>if qPP sep ts then some (false,.str (xR sep ts)) else none
 | _,_=>none
def wQ (acc:Str):List Str->Option Str
 | []=>some acc
 | t::r=>if (acc++t).length<=lim then wQ (acc++t) r else none
@[simp] noncomputable def qTR:D->Option R
 | .tup xs=>some (false,.tup xs.reverse)
 | _=>none
def d9:BOp->D->D->Option R
 | .add,.int a,.int b=>some (false,.int (a+b))
 | .sub,.int a,.int b=>some (false,.int (a - b))
 | .mul,.int a,.int b=>if cZ a b then some (false,.int (a * b)) else none
 | .fdiv,.int a,.int b=>if fG b then some (false,.int (a.fdiv b)) else none
 | .mod,.int a,.int b=>if fG b then some (false,.int (a.fmod b)) else none
 | .pow,.int a,.int b=>if fR a b then some (false,.int (a^b.toNat)) else none
 | .shl,.int a,.int b=>if qRD a b then some (false,.int (a * 2^b.toNat)) else none
 | .shr,.int a,.int b=>if 0<=b then some (false,.int (a / 2^b.toNat)) else none
 | .band,.int a,.int b=>if 0<=a/\0<=b then some (false,.int ((a.toNat &&& b.toNat:Nat):Int)) else none
 | .bor,.int a,.int b=>if 0<=a/\0<=b then some (false,.int ((a.toNat ||| b.toNat:Nat):Int)) else none
 | .bxor,.int a,.int b=>if 0<=a/\0<=b then some (false,.int (((a.toNat ||| b.toNat:Nat):Int) - ((a.toNat &&& b.toNat:Nat):Int))) else none
 | .add,.lst a,.lst b=>if a.length+b.length<=lim then some (true,.lst (a++b)) else none
 | .add,.str a,.str b=>if a.length+b.length<=lim then some (false,.str (a++b)) else none
 | .add,.tup [],.tup b=>some (false,.tup b)
 | .add,.tup (x::a),.tup b=>if a.length+1+b.length<=lim then some (false,.tup (x::a++b)) else none
 | .mul,.lst a,.int b=>if a.length * b.toNat<=lim/\-(2^62)<b/\b<2^62 then some (true,.lst (List.replicate b.toNat a).flatten) else none
 | _,_,_=>none
@[simp] noncomputable def fx:List D->Option (List Int)
 | []=>some []
 | .int i::r=>(fx r).map (i::·)
 | _=>none
def cV (ys:List D) (x:D):Bool:=ys.any λy=>aW y x
@[simp] def pY (n:Bool):D->D->Option R
 | x,.tup ys=>if bO 19 x&&(bF x&&cW ys) then some (false,.bl (if n then !(cV ys x) else cV ys x)) else none
 | x,.lst ys=>if bO 19 x&&(bF x&&cW ys) then some (false,.bl (if n then !(cV ys x) else cV ys x)) else none
 | _,_=>none
@[simp] def eL:COp->D->D->Option R
 | .isin,a,b=>pY false a b
 | .notin,a,b=>pY true a b
 | .eq,a,b=>if (bO 20 a||bO 20 b)&&(bF a&&bF b) then some (false,.bl (aW a b)) else none
 | .ne,a,b=>if (bO 20 a||bO 20 b)&&(bF a&&bF b) then some (false,.bl (!aW a b)) else (oh a b).map λe=>(false,.bl (!e))
 | .lt,.int a,.int b=>some (false,.bl (decide (a<b)))
 | .le,.int a,.int b=>some (false,.bl (decide (a<=b)))
 | .gt,.int a,.int b=>some (false,.bl (decide (b<a)))
 | .ge,.int a,.int b=>some (false,.bl (decide (b<=a)))
 | _,_,_=>none
@[simp] noncomputable def ixN (n:Nat) (i:Int):Option Nat:=if 0<=i then (if i<n then some i.toNat else none) else if -(n:Int)<=i then some (i+n).toNat else none
@[simp] def iP (xs:List D) (i:Int):Option D:=(ixN xs.length i).bind λj=>xs[j]?
@[simp] noncomputable def cutAt (n d:Nat):Option Int->Nat
 | none=>d
 | some v=>if v<0 then (v+n).toNat else min v.toNat n
@[simp] def iq (xs:List D) (lo hi:Option Int):List D:=(xs.drop (cutAt xs.length 0 lo)).take (cutAt xs.length xs.length hi - cutAt xs.length 0 lo)
@[simp] noncomputable def gu:List D->Option (List Bool)
 | []=>some []
 | .bl i::r=>(gu r).map (i::·)
 | _=>none
noncomputable def pU:List Int->Option Int
 | []=>none
 | a::r=>some (r.foldl (λm x=>if x<m then x else m) a)
noncomputable def pT:List Int->Option Int
 | []=>none
 | a::r=>some (r.foldl (λm x=>if m<x then x else m) a)
def rk (xs:List D):Option R:=match fx xs with
 | some is=>(pU is).map λm=>(false,.int m)
 | none=>none
def k3:BI->List D->Option R
 | .len,[.tup xs]=>some (false,.int xs.length)
 | .len,[.lst xs]=>some (false,.int xs.length)
 | .abs,[.int i]=>some (false,.int (if i<0 then -i else i))
 | .min,[.int i,.int j]=>some (false,.int (if j<i then j else i))
 | .max,[.int i,.int j]=>some (false,.int (if j > i then j else i))
 | .max,[.int i,.int j,.int k]=>some (false,.int (if k > (if j > i then j else i) then k else (if j > i then j else i)))
 | .min,[.lst xs]=>rk xs
 | .max,[.lst xs]=>(fx xs).bind λis=>(pT is).map λm=>(false,.int m)
 | .sum,[.lst xs]=>(fx xs).map λis=>(false,.int is.sum)
 | .all,[.lst xs]=>(gu xs).map λbs=>(false,.bl (bs.all id))
 | .sorted,[.lst xs]=>(fx xs).bind λis=>if is.length<64 then some (true,.lst ((cI is).map .int)) else none
 | .sorted,[.tup xs]=>(fx xs).bind λis=>if is.length<64 then some (true,.lst ((cI is).map .int)) else none
 | .any,[.lst xs]=>(gu xs).map λbs=>(false,.bl (bs.any id))
 | .str,[.int i]=>if i.natAbs<2^240 then some (false,.str (wW i)) else none
 | .tuple,[.lst xs]=>some (false,.tup xs)
 | .tuple,[.tup xs]=>some (false,.tup xs)
 | .list,[.lst xs]=>some (true,.lst xs)
 | .list,[.tup xs]=>some (true,.lst xs)
 | .int,[.bl b]=>some (false,.int (if b then 1 else 0))
 | .int,[.int i]=>some (false,.int i)
 | _,_=>none
@[simp] noncomputable def nV:Ty->D->Bool
 | .int,.int _=>true
 | .int,.bl _=>true
 | .bool,.bl _=>true
 | .tuple,.tup _=>true
 | .list,.lst _=>true
 | .str,.str _=>true
 | _,_=>false
@[simp] def qV (t:Ty):D->Option R
 | .obj _ _=>none
 | d=>some (false,.bl (nV t d))
@[simp] def kZ (neg:Bool):D->D->Option R
 | .obj _ _,.non=>some (false,.bl neg)
 | .obj _ _,_=>none
 | .non,.non=>some (false,.bl (!neg))
 | _,.non=>some (false,.bl neg)
 | .bl a,.bl b=>some (false,.bl (if a == b then !neg else neg))
 | _,.bl _=>some (false,.bl neg)
 | _,_=>none
@[simp] noncomputable def ar (Z:En) (i:Nat):Option R:=(Z[i]?).join
noncomputable def kD (Z:En):List Nat->List D->Option En
 | [],[]=>some Z
 | i::is,d::ds=>kD (Z.set i (some (false,d))) is ds
 | _,_=>none
def cF (Z:En):Tg->D->Option En
 | .one i,d=>some (Z.set i (some (false,d)))
 | .two i j,.tup [x,y]=>some ((Z.set i (some (false,x))).set j (some (false,y)))
 | .many is,.tup ds=>kD Z is ds
 | _,_=>none
def fj (a b c:Int):Int:=if c > 0 then if a<b then (b - a - 1) / c+1 else 0 else if a > b then (a - b - 1) / -c+1 else 0
@[simp] def dW:List D->Option (List D)
 | [.int n]=>if -(2^62)<=n/\n<2^62 then some ((List.range n.toNat).map λi=>.int (i:Nat)) else none
 | [.int a,.int b]=>some ((List.range (b - a).toNat).map λi=>.int (a+(i:Nat)))
 | [.int a,.int b,.int c]=>if -(2^62)<=a/\a<2^62/\-(2^62)<=b/\b<2^62/\c≠0/\c.natAbs<2^30 then some ((List.range (fj a b c).toNat).map λi=>.int (a+(i:Nat) * c)) else none
 | _=>none
@[simp] noncomputable def gG:List D->Option (List D)
 | [.int n]=>if -(2^62)<=n/\n<2^62 then some ((List.range n.toNat).map λi=>.int ((n.toNat:Int) - 1 - (i:Nat))) else none
 | _=>none
@[simp] noncomputable def bw:D->Option (List D)
 | .lst xs=>some xs
 | .tup xs=>some xs
 | _=>none
@[simp] noncomputable def fk:D->Option (List D)
 | .tup xs=>some xs
 | .lst xs=>some xs
 | _=>none
noncomputable def cY:Nat->List D->List D
 | _,[]=>[]
 | n,x::r=>.tup [.int (n:Nat),x]::cY (n+1) r
def bS (a b:List D):List D:=List.zipWith (λx y=>.tup [x,y]) a b
def kq (f:En->Option R) (Z:En) (tg:Tg):List D->Option (List D)
 | []=>some []
 | x::r=>(cF Z tg x).bind fun Z'=>(f Z').bind λy=>(kq f Z tg r).bind λys=>some (y.2::ys)
def rf (a b:Option (List D)):R->Option (List D)
 | (_,.bl true)=>a
 | (_,.bl false)=>b
 | _=>none
def mf (c f:En->Option R) (Z:En) (tg:Tg):List D->Option (List D)
 | []=>some []
 | x::r=>(cF Z tg x).bind fun Z'=>(c Z').bind (rf ((f Z').bind λy=>(mf c f Z tg r).bind λys=>some (y.2::ys)) (mf c f Z tg r))
@[simp] def a9 (Z:En) (nl:Nat) (ks:List Nat):En:=List.replicate nl none++ks.map λj=>ar Z j
@[simp] noncomputable def de:R->Option D
 | (false,d)=>some d
 | (true,.lst ds)=>some (.lst ds)
 | _=>none
@[simp] def pk (Z:En) (c:C) (r:Option R):Option D:=match c with
 | .v i=>(ar Z i).bind de
 | _=>r.map (·.2)
@[simp] noncomputable def hU:R->Option D
 | (false,d)=>some d
 | (true,.dct _ ks)=>some (.dct false ks)
 | _=>none
@[simp] def ag (Z:En) (c:C) (r:Option R):Option D:=match c with
 | .v i=>(ar Z i).bind hU
 | _=>r.map (·.2)
noncomputable def tY (m:Str) (tb:List (Nat×Nat)):D->Option Nat
 | .obj kn _=>if kn.ns.all (λf=>f != m) then tb.lookup kn.c else none
 | _=>none
def qT7 (tb:List (Nat×Bool)):D->Option R
 | .obj kn _=>(tb.lookup kn.c).map λb=>(false,.bl b)
 | _=>none
noncomputable def CL:Nat:=1099511627776
mutual
def aX:D->Bool
 | .tup ds=>dG ds
 | .lst ds=>dG ds
 | .obj kn ds=>decide (kn.c<CL)&&dG ds
 | _=>true
def dG:List D->Bool
 | []=>true
 | d::ds=>aX d&&dG ds
end
noncomputable def xc (kvs:List (Str×Str)):R->Option R
 | (false,.str x)=>(kvs.lookup x).map λy=>(false,.str y)
 | _=>none
def B6 (call:Nat->List D->Option R) (x:D):R->Option R
 | (false,.obj kn ds)=>if (decide (CL<=kn.c)&&(aX x&&dG ds))=true then call (kn.c - CL) (x::ds) else none
 | _=>none
def og (r:R):Option R:=if aX r.2=true then some r else none
def lJ (Z:En):List Nat->Option (List D)
 | []=>some []
 | k::ks=>match ar Z k with
  | some (false,d)=>(lJ Z ks).map (d::·)
  | _=>none
def qUc:D->Option R
 | .int i=>if i.natAbs<2^240 then some (false,.str (wW i)) else none
 | .str x=>if x.length<=lim then some (false,.str x) else none
 | _=>none
def qUi:R->Option R
 | (true,.lst xs)=>(gu xs).map λbs=>(false,.int ((bs.countP id:Nat):Int))
 | _=>none
noncomputable def cg (j:Nat) (f:Str):D->Option R
 | .obj ns ds=>if ns.ns[j]?=some f then (ds[j]?).map (false,·) else none
 | _=>none
@[simp] noncomputable def rD:D->Option (Option Int)
 | .int i=>some (some i)
 | _=>none
@[simp] noncomputable def rC:D->Option R
 | .int i=>some (false,.int (-i))
 | _=>none
@[simp] def tZ:D->D->Option R
 | .lst xs,.int i=>(iP xs i).map (false,·)
 | .tup xs,.int i=>(iP xs i).map (false,·)
 | _,_=>none
@[simp] def qX (l h:Option Int):D->Option R
 | .lst xs=>some (true,.lst (iq xs l h))
 | .tup xs=>some (false,.tup (iq xs l h))
 | _=>none
@[simp] noncomputable def n4 (k:Option R):R->Option R
 | (_,.bl true)=>k
 | (_,.bl false)=>some (false,.bl false)
 | _=>none
@[simp] noncomputable def BX (k:Option R):R->Option R
 | (_,.bl true)=>some (false,.bl true)
 | (_,.bl false)=>k
 | _=>none
@[simp] noncomputable def xi:R->Option R
 | (_,.bl c)=>some (false,.bl (!c))
 | _=>none
noncomputable def qUl (i:Int):Int:=if i=0 then 0 else ((i.natAbs.log2+1:Nat):Int)
@[simp] def qUm:D->Option R
 | .int i=>some (false,.int (qUl i))
 | _=>none
@[simp] def B4 (a b:Option R):R->Option R
 | (_,.bl true)=>a
 | (_,.bl false)=>b
 | _=>none
@[simp] noncomputable def ji:Option R->Option R
 | some (false,d)=>some (false,d)
 | _=>none
noncomputable def arD (xs zs:List D):Ar->Option D
 | .pos i=>xs[i]?
 | .kw i=>zs[i]?
 | .dft _ d=>some d
def aE (xs zs:List D):List Ar->Option (List D)
 | []=>some []
 | a::r=>(arD xs zs a).bind λx=>(aE xs zs r).bind λys=>some (x::ys)
section
variable (call:Nat->List D->Option R)
mutual
def aa (Z:En):C->Option R
 | .v i=>ji (ar Z i)
 | .k d=>some (false,d)
 | .bin o a b=>(pk Z a (aa Z a)).bind λx=>(pk Z b (aa Z b)).bind λy=>d9 o x y
 | .neg a=>(pk Z a (aa Z a)).bind rC
 | .cmp o a b=>(pk Z a (aa Z a)).bind λx=>(pk Z b (aa Z b)).bind λy=>eL o x y
 | .isC n a d=>(pk Z a (aa Z a)).bind λx=>kZ n x d
 | .and a b=>(aa Z a).bind (n4 (aa Z b))
 | .or a b=>(aa Z a).bind (BX (aa Z b))
 | .not a=>(aa Z a).bind xi
 | .ix a b=>(pk Z a (aa Z a)).bind λx=>(pk Z b (aa Z b)).bind λy=>tZ x y
 | .sl a lo hi=>(pk Z a (aa Z a)).bind λx=>(fK Z lo).bind λl=>(fK Z hi).bind λh=>qX l h x
 | .tup as=>(bh Z as).bind λxs=>if xs.length<=lim then some (false,.tup xs) else none
 | .lst as=>(bh Z as).bind λxs=>if xs.length<=lim then some (true,.lst xs) else none
 | .call f as=>(dU Z as).bind λxs=>call f xs
 | .bi b as=>(bu Z as).bind λxs=>k3 b xs
 | .isi a t=>(pk Z a (aa Z a)).bind (qV t)
 | .bitl a=>(pk Z a (aa Z a)).bind qUm
 | .ifx c a b=>(aa Z c).bind (B4 (aa Z a) (aa Z b))
 | .rev a=>(pk Z a (aa Z a)).bind qTR
 | .join a b=>(pk Z a (aa Z a)).bind λx=>(pk Z b (aa Z b)).bind λy=>qSd x y
 | .fstr as=>(bh Z as).bind λxs=>(rR xs).bind λts=>(wQ Str.empty ts).map λz=>(false,.str z)
 | .chn o p a b c=>(pk Z a (aa Z a)).bind λx=>(pk Z b (aa Z b)).bind λy=>(eL o x y).bind (n4 ((pk Z c (aa Z c)).bind λz=>eL p y z))
 | .callP f as ks pl=>(bh Z as).bind λxs=>(bh Z ks).bind λzs=>(aE xs zs pl).bind λds=>call f ds
 | .compS e nl ks tg src=>(pk Z src (aa Z src)).bind λx=>(bw x).bind λits=>(kq (fun Z'=>aa Z' e) (a9 Z nl ks) tg its).bind λys=>some (true,.lst ys)
 | .compR e nl ks tg rs=>(bu Z rs).bind λx=>(dW x).bind λits=>if its.length<=lim then (kq (fun Z'=>aa Z' e) (a9 Z nl ks) tg its).bind λys=>some (true,.lst ys) else none
 | .compZ e nl ks tg a b=>(aa Z a).bind λx=>(aa Z b).bind λy=>(bw x.2).bind λxs=>(fk y.2).bind λys =>
   (kq (fun Z'=>aa Z' e) (a9 Z nl ks) tg (bS xs ys)).bind λzs=>some (true,.lst zs)
 | .compE e nl ks tg a=>(aa Z a).bind λx=>(bw x.2).bind λxs=>(kq (fun Z'=>aa Z' e) (a9 Z nl ks) tg (cY 0 xs)).bind λzs=>some (true,.lst zs)
 | .compF e c nl ks tg src=>(aa Z src).bind λx=>(bw x.2).bind λits=>(mf (fun Z'=>aa Z' c) (fun Z'=>aa Z' e) (a9 Z nl ks) tg its).bind λys=>some (true,.lst ys)
 | .compG e c nl ks tg rs=>(bu Z rs).bind λx=>(dW x).bind λits=>if its.length<=lim then (mf (fun Z'=>aa Z' c) (fun Z'=>aa Z' e) (a9 Z nl ks) tg its).bind λys=>some (true,.lst ys) else none
 | .fld a j f=>(aa Z a).bind λx=>cg j f x.2
 | .mk kn as=>(bh Z as).bind λxs=>if xs.length=kn.ns.length then some (false,.obj kn xs) else none
 | .mc a m tb bs=>(aa Z a).bind λx=>(tY m tb x.2).bind λf=>(bh Z bs).bind λys=>call f (x.2::ys)
 | .iso a tb=>(aa Z a).bind λx=>qT7 tb x.2
 | .cntT a=>(aa Z a).bind qUi
 | .fmt a=>(pk Z a (aa Z a)).bind qUc
 | .cv i a=>(aa Z a).bind λx=>(ar Z i).bind (B6 call x.2)
 | .tbl kvs a=>(aa Z a).bind (xc kvs)
 | .lamc f as j ks=>(bh Z as).bind λxs=>(lJ Z ks).bind λds=>(call f (xs++[.obj ⟨CL+j,[]⟩ ds])).bind og
termination_by structural c=>c
def bh (Z:En):List C->Option (List D)
 | []=>some []
 | a::r=>(aa Z a).bind λx=>(bh Z r).bind λxs=>some (x.2::xs)
termination_by structural c=>c
def bu (Z:En):List C->Option (List D)
 | []=>some []
 | a::r=>(pk Z a (aa Z a)).bind λx=>(bu Z r).bind λxs=>some (x::xs)
termination_by structural c=>c
def dU (Z:En):List C->Option (List D)
 | []=>some []
 | a::r=>(ag Z a (aa Z a)).bind λx=>(dU Z r).bind λxs=>some (x::xs)
termination_by structural c=>c
def fK (Z:En):Option C->Option (Option Int)
 | none=>some none
 | some c=>(pk Z c (aa Z c)).bind rD
termination_by structural c=>c
end
inductive Ou where|nx (Z:En)|rt (r:R)|bk (Z:En)|ct (Z:En)
@[simp] def frz1 (Z:En) (i:Nat):En:=match ar Z i with|some (true,.lst ds)=>Z.set i (some (false,.lst ds))|_=>Z
@[simp] noncomputable def jh (keep:Bool) (r:R):R:=(keep&&r.1,r.2)
def iF (f:En->Option Ou) (tg:Tg):List D->En->Option Ou
 | [],Z=>some (.nx Z)
 | x::r,Z=>(cF Z tg x).bind fun Z1=>(f Z1).bind λo=>match o with
   | .nx Z2=>iF f tg r Z2
   | .ct Z2=>iF f tg r Z2
   | .bk Z2=>some (.nx Z2)
   | .rt v=>some (.rt v)
@[simp] def wX (a b:Option Ou):R->Option Ou
 | (_,.bl true)=>a
 | (_,.bl false)=>b
 | _=>none
@[simp] def kG (Z:En) (i:Nat) (k e:D):Option Ou:=match ar Z i,k with
 | some (true,.lst xs),.int n=>(ixN xs.length n).bind λj=>some (.nx (Z.set i (some (true,.lst (xs.set j e)))))
 | some (true,.dct true ks),.int n=>match e with
  | .bl true=>if ks.length<lim then some (.nx (Z.set i (some (true,.dct true (if ks.any (· == n) then ks else ks++[n]))))) else none
  | _=>none
 | _,_=>none
@[simp] def gK (Z:En) (i:Nat) (e:D):Option Ou:=match ar Z i with
 | some (true,.lst xs)=>if xs.length<lim then some (.nx (Z.set i (some (true,.lst (xs++[e]))))) else none
 | _=>none
@[simp] noncomputable def wH:R->Option R
 | (false,d)=>some (false,d)
 | (true,.lst ds)=>some (true,.lst ds)
 | _=>none
@[simp] def fO (Z:En) (c:C) (r:Option R):Option R:=match c with
 | .v i=>(ar Z i).bind wH
 | _=>r
@[simp] noncomputable def rK (k:En->Option Ou):Ou->Option Ou
 | .nx Z=>k Z
 | .rt r=>some (.rt r)
 | .bk Z=>some (.bk Z)
 | .ct Z=>some (.ct Z)
@[simp] noncomputable def oV (k:En->Option Ou):Ou->Option Ou
 | .nx Z=>k Z
 | .ct Z=>k Z
 | .bk Z=>some (.nx Z)
 | .rt r=>some (.rt r)
@[simp] noncomputable def xh (Z:En) (k:Option Ou):R->Option Ou
 | (_,.bl true)=>k
 | (_,.bl false)=>some (.nx Z)
 | _=>none
def j7 (c:En->Option R) (b:En->Option Ou):Nat->En->Option Ou
 | 0,_=>none
 | n+1,Z=>(c Z).bind (xh Z ((b Z).bind (oV (j7 c b n))))
@[simp] def oB (Z:En) (i:Nat):R->Option Ou
 | (true,.lst ys)=>match ar Z i with
  | some (true,.lst xs)=>if xs.length+ys.length<=lim then some (.nx (Z.set i (some (true,.lst (xs++ys))))) else none
  | _=>none
 | (false,.tup ys)=>match ar Z i with
  | some (true,.lst xs)=>if xs.length+ys.length<=lim then some (.nx (Z.set i (some (true,.lst (xs++ys))))) else none
  | _=>none
 | _=>none
@[simp] def wM (Z:En) (tg:Tg):R->Option Ou
 | (false,d)=>(cF Z tg d).map .nx
 | _=>none
@[simp] def rA (Z:En) (tg:Tg) (i:Nat):Option Ou:=match ar Z i with
 | some (true,.lst xs)=>(xs.getLast?).bind λd=>(cF (Z.set i (some (true,.lst xs.dropLast))) tg d).map .nx
 | _=>none
@[simp] def wN (Z:En) (i:Nat) (y:D):Option Ou:=match ar Z i,y with
 | some (false,.int a),.int b=>some (.nx (Z.set i (some (false,.int (a+b)))))
 | _,_=>none
@[simp] def xX (Z:En) (i:Nat):Option Ou:=match ar Z i with
 | some (true,.lst xs)=>(xs.getLast?).bind λ_=>some (.nx (Z.set i (some (true,.lst xs.dropLast))))
 | _=>none
@[simp] noncomputable def lI:R->Option (List D)
 | (true,.lst xs)=>some xs
 | _=>none
@[simp] noncomputable def wV (Z:En) (i:Nat):R->Option Ou
 | (_,.lst ys)=>some (.nx (Z.set i (some (true,.lst ys))))
 | _=>none
noncomputable def qTS:Option Ou->Option Ou
 | some (.rt r)=>some (.rt r)
 | _=>none
def foK (a b:Option Ou):R->Option Ou
 | (_,.bl true)=>qTS a
 | (_,.bl false)=>b
 | _=>none
def rN (f:En->Option R) (g:En->Option Ou) (x:Nat):List D->En->Option Ou
 | [],Z=>some (.nx Z)
 | d::r,Z=>(f (Z.set x (some (false,d)))).bind (foK (g (Z.set x (some (false,d)))) (rN f g x r (Z.set x (some (false,d)))))
noncomputable def xB (i:Nat) (xs:List D):Ou->Option Ou
 | .nx Z=>some (.nx (Z.set i (some (true,.lst xs))))
 | .rt r=>some (.rt r)
 | _=>none
mutual
def bW (Z:En):S->Option Ou
 | .frz is=>some (.nx (is.foldl frz1 Z))
 | .set i keep e=>(aa call Z e).bind λr=>some (.nx (Z.set i (some (jh keep r))))
 | .aug i e=>(pk Z e (aa call Z e)).bind (wN Z i)
 | .popE i=>xX Z i
 | .dnew i=>some (.nx (Z.set i (some (true,.dct true []))))
 | .setIx i k e=>(aa call Z e).bind λx=>(pk Z k (aa call Z k)).bind λn=>kG Z i n x.2
 | .hnd i f as=>(ar Z i).bind λr=>(lI r).bind λxs=>(bh call Z as).bind λys=>(call (f+HX) (.lst xs::ys)).bind (wV Z i)
 | .forO i x c body=>(ar Z i).bind λr=>(lI r).bind λxs=>if i=x then none else (rN (fun Z'=>aa call Z' c) (fun Z'=>af Z' body) x xs (Z.set i none)).bind (xB i xs)
 | .app i e=>(aa call Z e).bind λx=>gK Z i x.2
 | .ret e=>(fO Z e (aa call Z e)).bind λr=>some (.rt r)
 | .ite c a b=>(aa call Z c).bind (wX (af Z a) (af Z b))
 | .forS tg src body=>(aa call Z src).bind λx=>(bw x.2).bind λits=>iF (fun Z'=>af Z' body) tg its Z
 | .forR tg rs body=>(bu call Z rs).bind λx=>(dW x).bind λits=>iF (fun Z'=>af Z' body) tg its Z
 | .forV tg rs body=>(bu call Z rs).bind λx=>(gG x).bind λits=>iF (fun Z'=>af Z' body) tg its Z
 | .ext i e=>(aa call Z e).bind (oB Z i)
 | .asgT tg e=>(aa call Z e).bind (wM Z tg)
 | .pop tg i=>rA Z tg i
 | .whl c body=>j7 (fun Z'=>aa call Z' c) (fun Z'=>af Z' body) mU Z
 | .brk=>some (.bk Z)
 | .cnt=>some (.ct Z)
 | .stk=>none
 | .forZ tg a b body=>(aa call Z a).bind λx=>(aa call Z b).bind λy=>(bw x.2).bind λxs=>(fk y.2).bind λys=>iF (fun Z'=>af Z' body) tg (bS xs ys) Z
 | .forE tg a body=>(aa call Z a).bind λx=>(bw x.2).bind λxs=>iF (fun Z'=>af Z' body) tg (cY 0 xs) Z
termination_by structural c=>c
def af (Z:En):List S->Option Ou
 | []=>some (.nx Z)
 | a::r=>(bW Z a).bind (rK fun Z'=>af Z' r)
termination_by structural c=>c
end
end
section
variable (call:Nat->List D->Option R) (Z:En)
def cG (e:C) (Z:En) (tg:Tg) (its:List D):Option (List D):=kq (fun Z'=>aa call Z' e) Z tg its
def iN (c e:C) (Z:En) (tg:Tg) (its:List D):Option (List D):=mf (fun Z'=>aa call Z' c) (fun Z'=>aa call Z' e) Z tg its
def bE (body:List S) (tg:Tg) (its:List D) (Z:En):Option Ou:=iF (fun Z'=>af call Z' body) tg its Z
@[simp] theorem xM (i):aa call Z (.v i)=ji (ar Z i):=rfl
@[simp] theorem yV (o a b):aa call Z (.bin o a b)=(pk Z a (aa call Z a)).bind λx=>(pk Z b (aa call Z b)).bind λy=>d9 o x y:=rfl
@[simp] theorem qNx (a):aa call Z (.neg a)=(pk Z a (aa call Z a)).bind rC:=rfl
@[simp] theorem sx (o a b):aa call Z (.cmp o a b)=(pk Z a (aa call Z a)).bind λx=>(pk Z b (aa call Z b)).bind λy=>eL o x y:=rfl
@[simp] theorem qNz (n a d):aa call Z (.isC n a d)=(pk Z a (aa call Z a)).bind λx=>kZ n x d:=rfl
@[simp] theorem qNB (a b):aa call Z (.and a b)=(aa call Z a).bind (n4 (aa call Z b)):=rfl
@[simp] theorem qQa (a b):aa call Z (.or a b)=(aa call Z a).bind (BX (aa call Z b)):=rfl
@[simp] theorem qNw (a):aa call Z (.not a)=(aa call Z a).bind xi:=rfl
@[simp] theorem yj (a b):aa call Z (.ix a b)=(pk Z a (aa call Z a)).bind λx=>(pk Z b (aa call Z b)).bind λy=>tZ x y:=rfl
@[simp] theorem qP9 (a lo hi):aa call Z (.sl a lo hi)=(pk Z a (aa call Z a)).bind λx=>(fK call Z lo).bind λl=>(fK call Z hi).bind λh=>qX l h x:=rfl
@[simp] theorem yY (as):aa call Z (.tup as)=(bh call Z as).bind λxs=>if xs.length<=lim then some (false,.tup xs) else none:=rfl
@[simp] theorem qNy (as):aa call Z (.lst as)=(bh call Z as).bind λxs=>if xs.length<=lim then some (true,.lst xs) else none:=rfl
@[simp] theorem lZ (f as):aa call Z (.call f as)=(dU call Z as).bind λxs=>call f xs:=rfl
@[simp] theorem jx:dU call Z []=some []:=rfl
@[simp] theorem jt (a r):dU call Z (a::r)=(ag Z a (aa call Z a)).bind λx=>(dU call Z r).bind λxs=>some (x::xs):=rfl
@[simp] theorem qSr (i e):bW call Z (.aug i e)=(pk Z e (aa call Z e)).bind (wN Z i):=rfl
@[simp] theorem qQ3 (i):bW call Z (.popE i)=xX Z i:=rfl
@[simp] theorem qQ5 (i):bW call Z (.dnew i)=some (.nx (Z.set i (some (true,.dct true [])))):=rfl
@[simp] theorem qQd (b as):aa call Z (.bi b as)=(bu call Z as).bind λxs=>k3 b xs:=rfl
@[simp] theorem qNA (c a b):aa call Z (.ifx c a b)=(aa call Z c).bind (B4 (aa call Z a) (aa call Z b)):=rfl
@[simp] theorem qSs (o p a b c):aa call Z (.chn o p a b c)=(pk Z a (aa call Z a)).bind λx=>(pk Z b (aa call Z b)).bind λy=>(eL o x y).bind (n4 ((pk Z c (aa call Z c)).bind λz=>eL p y z)):=rfl
@[simp] theorem qQc (f as ks pl):aa call Z (.callP f as ks pl)=(bh call Z as).bind λxs=>(bh call Z ks).bind λzs=>(aE xs zs pl).bind λds=>call f ds:=rfl
@[simp] theorem Br (e nl ks tg src):aa call Z (.compS e nl ks tg src)=(pk Z src (aa call Z src)).bind λx=>(bw x).bind λits=>(cG call e (a9 Z nl ks) tg its).bind λys=>some (true,.lst ys):=rfl
@[simp] theorem qIr (e nl ks tg rs):aa call Z (.compR e nl ks tg rs)=(bu call Z rs).bind λx=>(dW x).bind λits=>if its.length<=lim then (cG call e (a9 Z nl ks) tg its).bind λys=>some (true,.lst ys) else none:=rfl
@[simp] theorem qIq (e nl ks tg a b):aa call Z (.compZ e nl ks tg a b)=(aa call Z a).bind λx=>(aa call Z b).bind λy=>(bw x.2).bind λxs=>(fk y.2).bind λys =>
   (cG call e (a9 Z nl ks) tg (bS xs ys)).bind λzs=>some (true,.lst zs):=rfl
@[simp] theorem qQb (e nl ks tg a):aa call Z (.compE e nl ks tg a)=(aa call Z a).bind λx=>(bw x.2).bind λxs=>(cG call e (a9 Z nl ks) tg (cY 0 xs)).bind λzs=>some (true,.lst zs):=rfl
@[simp] theorem Bq (e c nl ks tg src):aa call Z (.compF e c nl ks tg src)=(aa call Z src).bind λx=>(bw x.2).bind λits=>(iN call c e (a9 Z nl ks) tg its).bind λys=>some (true,.lst ys):=rfl
@[simp] theorem yW (a j f):aa call Z (.fld a j f)=(aa call Z a).bind λx=>cg j f x.2:=rfl
@[simp] theorem ym (kn as):aa call Z (.mk kn as)=(bh call Z as).bind λxs=>if xs.length=kn.ns.length then some (false,.obj kn xs) else none:=rfl
@[simp] theorem yk (a m tb bs):aa call Z (.mc a m tb bs)=(aa call Z a).bind λx=>(tY m tb x.2).bind λf=>(bh call Z bs).bind λys=>call f (x.2::ys):=rfl
@[simp] theorem yX (kvs a):aa call Z (.tbl kvs a)=(aa call Z a).bind (xc kvs):=rfl
@[simp] theorem yi (i a):aa call Z (.cv i a)=(aa call Z a).bind λx=>(ar Z i).bind (B6 call x.2):=rfl
@[simp] theorem qKl (f as j ks):aa call Z (.lamc f as j ks)=(bh call Z as).bind λxs=>(lJ Z ks).bind λds=>(call f (xs++[.obj ⟨CL+j,[]⟩ ds])).bind og:=rfl
@[simp] theorem fI:bh call Z []=some []:=rfl
@[simp] theorem kR (a r):bh call Z (a::r)=(aa call Z a).bind λx=>(bh call Z r).bind λxs=>some (x.2::xs):=rfl
@[simp] theorem tK:bu call Z []=some []:=rfl
@[simp] theorem qIv (a r):bu call Z (a::r)=(pk Z a (aa call Z a)).bind λx=>(bu call Z r).bind λxs=>some (x::xs):=rfl
@[simp] theorem qQ7:fK call Z none=some none:=rfl
@[simp] theorem qKk (c):fK call Z (some c)=(pk Z c (aa call Z c)).bind rD:=rfl
@[simp] theorem zb (i keep e):bW call Z (.set i keep e)=(aa call Z e).bind λr=>some (.nx (Z.set i (some (jh keep r)))):=rfl
@[simp] theorem qIj (i k e):bW call Z (.setIx i k e)=(aa call Z e).bind λx=>(pk Z k (aa call Z k)).bind λn=>kG Z i n x.2:=rfl
@[simp] theorem qSo (i f as):bW call Z (.hnd i f as)=(ar Z i).bind λr=>(lI r).bind λxs=>(bh call Z as).bind λys=>(call (f+HX) (.lst xs::ys)).bind (wV Z i):=rfl
@[simp] theorem qQ4 (i x c body):bW call Z (.forO i x c body)=(ar Z i).bind λr=>(lI r).bind λxs=>if i=x then none else (rN (fun Z'=>aa call Z' c) (fun Z'=>af call Z' body) x xs (Z.set i none)).bind (xB i xs):=rfl
@[simp] theorem yZ (i e):bW call Z (.app i e)=(aa call Z e).bind λx=>gK Z i x.2:=rfl
@[simp] theorem mi (e):bW call Z (.ret e)=(fO Z e (aa call Z e)).bind λr=>some (.rt r):=rfl
@[simp] theorem za (c a b):bW call Z (.ite c a b)=(aa call Z c).bind (wX (af call Z a) (af call Z b)):=rfl
@[simp] theorem A2 (tg src body):bW call Z (.forS tg src body)=(aa call Z src).bind λx=>(bw x.2).bind λits=>bE call body tg its Z:=rfl
@[simp] theorem A1 (tg rs body):bW call Z (.forR tg rs body)=(bu call Z rs).bind λx=>(dW x).bind λits=>bE call body tg its Z:=rfl
@[simp] theorem A3 (tg rs body):bW call Z (.forV tg rs body)=(bu call Z rs).bind λx=>(gG x).bind λits=>bE call body tg its Z:=rfl
@[simp] theorem sy (i e):bW call Z (.ext i e)=(aa call Z e).bind (oB Z i):=rfl
@[simp] theorem qQ6 (tg e):bW call Z (.asgT tg e)=(aa call Z e).bind (wM Z tg):=rfl
@[simp] theorem qNv (tg i):bW call Z (.pop tg i)=rA Z tg i:=rfl
@[simp] theorem qNu (c body):bW call Z (.whl c body)=j7 (fun Z'=>aa call Z' c) (fun Z'=>af call Z' body) mU Z:=rfl
@[simp] theorem qSq:bW call Z .brk=some (.bk Z):=rfl
@[simp] theorem qSp:bW call Z .cnt=some (.ct Z):=rfl
@[simp] theorem A4 (tg a b body):bW call Z (.forZ tg a b body)=(aa call Z a).bind λx=>(aa call Z b).bind λy=>(bw x.2).bind λxs=>(fk y.2).bind λys=>bE call body tg (bS xs ys) Z:=rfl
@[simp] theorem Ao (tg a body):bW call Z (.forE tg a body)=(aa call Z a).bind λx=>(bw x.2).bind λxs=>bE call body tg (cY 0 xs) Z:=rfl
@[simp] theorem dY (a r):af call Z (a::r)=(bW call Z a).bind (rK fun Z'=>af call Z' r):=rfl
theorem mj (body tg x r):bE call body tg (x::r) Z=(cF Z tg x).bind fun Z1=>(af call Z1 body).bind λo=>oV (bE call body tg r) o:=by
 show (cF Z tg x).bind _=(cF Z tg x).bind _
 congr
theorem qFi (e tg x r):cG call e Z tg (x::r)=(cF Z tg x).bind fun Z1=>(aa call Z1 e).bind λy=>(cG call e Z tg r).bind λys=>some (y.2::ys):=rfl
theorem qEF (c e tg x r):iN call c e Z tg (x::r)=(cF Z tg x).bind fun Z1=>(aa call Z1 c).bind (rf ((aa call Z1 e).bind λy=>(iN call c e Z tg r).bind λys=>some (y.2::ys)) (iN call c e Z tg r)):=rfl
theorem eN {α:Type}{e:C}{tg:Tg}(enc g:α->D):∀(l:List α),(∀x∈l,∃Z' b,cF Z tg (enc x)=some Z'/\aa call Z' e=some (b,g x))->cG call e Z tg (l.map enc)=some (l.map g)
 | [],_=>rfl
 | x::r,h=>by
  obtain⟨Z',b,h1,h2⟩:=h x dF
  simp [qFi,h1,h2,eN enc g r λy hy=>h y (dq _ hy)]
end
theorem tV {call:Nat->List D->Option R}{Z:En}{α:Type}{c e:C}{tg:Tg}(enc g:α->D) (p:α->Bool):∀(l:List α),(∀x∈l,∃Z',cF Z tg (enc x)=some Z'/\aa call Z' c=some (false,.bl (p x))/\(p x=true->∃b,aa call Z' e=some (b,g x)))->iN call c e Z tg (l.map enc)=some ((l.filter p).map g)
 | [],_=>rfl
 | x::r,h=>by
  obtain⟨Z',h1,h2,h3⟩:=h x dF
  have ih:=tV enc g p r λy hy=>h y (dq _ hy)
  rw [gd,qEF,h1,dE,h2,dE,ih]
  cases hp:p x with
  | false=>rw [List.filter_cons_of_neg (by simp [hp])];rfl
  | true =>
   obtain⟨b,hb⟩:=h3 hp
   rw [List.filter_cons_of_pos hp]
   show (aa call Z' e).bind _=_
   rw [hb]
   rfl
theorem Bu {α:Type}(f:α->Int):∀l:List α,fx (l.map λx=>.int (f x))=some (l.map f)
 | []=>rfl
 | x::r=>by simp [Bu f r]
theorem pJ {α:Type}(f:α->Bool):∀l:List α,gu (l.map λx=>.bl (f x))=some (l.map f)
 | []=>rfl
 | x::r=>by simp [pJ f r]
theorem qIz (xs:List D):∀(n i:Nat),(cY n xs)[i]?=xs[i]?.map λx=>.tup [.int ((n+i:Nat):Int),x]:=by
 induction xs with
 | nil=>intro n i;rfl
 | cons x r ih =>
  intro n i
  cases i with
  | zero=>rfl
  | succ i=>show (cY (n+1) r)[i]?=_;rw [ih,jY,show n+1+i=n+(i+1) by omega]
theorem tU (xs:List D):∀n,(cY n xs).length=xs.length:=by
 induction xs with
 | nil=>intro n;rfl
 | cons x r ih=>intro n;show (cY (n+1) r).length+1=_;rw [ih];rfl
structure Fd where
 np:Nat
 ns:Nat
 body:List S
@[simp] noncomputable def qUe:Ou->Option R
 | .nx _=>some (false,.non)
 | .rt r=>some r
 | _=>none
@[simp] def aO:Bool->List D->En
 | _,[]=>[]
 | true,.dct _ _::r=>none::aO true r
 | false,.dct m ks::r=>some (true,.dct m ks)::aO true r
 | b,d::r=>some (false,d)::aO b r
def iD (call:Nat->List D->Option R) (fd:Fd) (as:List D):Option R:=
 if as.length=fd.np then (af call (aO false as++List.replicate (fd.ns - fd.np) none) fd.body).bind qUe else none
@[simp] def qUf:Ou->Option R
 | .nx Z=>(ar Z 0).bind λr=>(lI r).map λxs=>(true,.lst xs)
 | _=>none
def qTQ (call:Nat->List D->Option R) (fd:Fd):List D->Option R
 | .lst xs::as=>if as.length+1=fd.np then (af call (some (true,.lst xs)::as.map (λd=>some (false,d))++List.replicate (fd.ns - fd.np) none) fd.body).bind qUf else none
 | _=>none
def aC (tab:List Fd):Nat->Nat->List D->Option R
 | 0,_,_=>none
 | n+1,f,as=>match tab[f]? with
  | some fd=>iD (aC tab n) fd as
  | none=>if HX<=f then (match tab[f - HX]? with|some fd=>qTQ (aC tab n) fd as|none=>none) else none
theorem lW {tab:List Fd}{f:Nat}{fd:Fd}(h:tab[f]?=some fd) (n:Nat) (as:List D):aC tab (n+1) f as=iD (aC tab n) fd as:=by
 rw [aC,h]
end Dw
namespace Dw
open PySem
structure Uc where
 f:Str
 i:Nat
 np:Nat
 ks:List Str
 pl:List Ar
structure Mt where
 c:Str
 kn:Kn
 m:Str
 i:Nat
structure Gx where
 defs:List (Str×Nat)
 cons:List (Str×Int):=[]
 ucal:List Uc:=[]
 meth:List Mt:=[]
 flds:List (Str×Nat):=[]
 isa:List (Str×List (Nat×Bool)):=[]
 dcts:List (Str×List (Str×Str)):=[]
 dfl:List (Str×Nat×Int):=[]
noncomputable def xD (x:Str) (n:Nat):Option BI:=
 if x=Qa "any" then (if n=1 then some .any else none) else
 if x=Qa "sorted" then (if n=1 then some .sorted else none) else none
def rn (x:Str) (n:Nat):Option BI:=
 if x=Qa "len" then (if n=1 then some .len else none) else
 if x=Qa "min" then (if n=2∨n=1 then some .min else none) else
 if x=Qa "max" then (if n=2∨n=3∨n=1 then some .max else none) else
 if x=Qa "sum" then (if n=1 then some .sum else none) else
 if x=Qa "all" then (if n=1 then some .all else none) else
 if x=Qa "tuple" then (if n=1 then some .tuple else none) else
 if x=Qa "list" then (if n=1 then some .list else none) else
 if x=Qa "int" then (if n=1 then some .int else none) else xD x n
noncomputable def oy (x:Str):Option Ty:=
 if x=Qa "int" then some .int else
 if x=Qa "bool" then some .bool else
 if x=Qa "tuple" then some .tuple else
 if x=Qa "list" then some .list else
 if x=Qa "str" then some .str else none
noncomputable def xu:Operator->Option BOp
 | .Add=>some .add|.Sub=>some .sub|.Mult=>some .mul|.FloorDiv=>some .fdiv|.Mod=>some .mod|.Pow=>some .pow|.LShift=>some .shl|.RShift=>some .shr|.BitAnd=>some .band|.BitOr=>some .bor|.BitXor=>some .bxor|_=>none
noncomputable def xy:CmpOp->Option COp
 | .Eq=>some .eq|.NotEq=>some .ne|.Lt=>some .lt|.LtE=>some .le|.Gt=>some .gt|.GtE=>some .ge|.In=>some .isin|.NotIn=>some .notin|_=>none
def pW:Const->Option D
 | .int i=>some (.int i)|.bool b=>some (.bl b)|.none=>some .non|.str x=>some (.str x)|_=>none
noncomputable def bQ (N:List Str) (x:Str):Option Nat:=N.findIdx? (· == x)
noncomputable def iA (sc:Scope) (x:Str):Bool:=sc.names.lookup x == some .local||sc.names.lookup x == some .cell||sc.names.lookup x == some .free
noncomputable def bf (sc:Scope) (x:Str):Bool:=sc.names.lookup x == some .globalImplicit
noncomputable def eB (x:Str):Bool:=x != Qa "__debug__"&&x != Qa "__classdict__"&&x != Qa "__name__"
def ck (sc:Scope) (N:List Str) (x:Str):Option Nat:=if iA sc x&&eB x then bQ N x else none
noncomputable def ip (sc:Scope) (x:Str):Bool:=sc.names.lookup x == some .cell||sc.names.lookup x == some .free
def fQ (sc:Scope) (N:List Str) (x:Str):Option Nat:=if ip sc x then ck sc N x else none
noncomputable def aP (sc:Scope):List Str:=(sc.names.filter λp=>p.2 == .local&&p.1 != Qa ".0").map (·.1)
noncomputable def aG (sc:Scope):List Str:=(sc.names.filter λp=>p.2 == .free).map (·.1)
def pF (sc:Scope):Bool:=sc.kind == .function&&sc.names.all (λp=>p.2 != .cell)&&decide ((sc.names.map (·.1)).Nodup)&&(aP sc++aG sc).all eB
noncomputable def cL {α β:Type}(f:α->Option β):List α->Option (List β)
 | []=>some []
 | a::r=>(f a).bind λx=>(cL f r).bind λxs=>some (x::xs)
def eX (sc:Scope) (N:List Str):Expr->Option Nat
 | .Name x _=>if sc.names.lookup x == some .local||sc.names.lookup x == some .cell then bQ N x else none
 | _=>none
def eW (sc:Scope) (N:List Str):Expr->Option Tg
 | .Name x _=>if sc.names.lookup x == some .local||sc.names.lookup x == some .cell then (bQ N x).map .one else none
 | .Tuple [.Name x _,.Name y _] _ _=>if (sc.names.lookup x == some .local||sc.names.lookup x == some .cell)&&(sc.names.lookup y == some .local||sc.names.lookup y == some .cell)&&x != y then
   (bQ N x).bind λi=>(bQ N y).bind λj=>some (.two i j) else none
 | _=>none
def eU (sc:Scope) (N:List Str) (e:Expr):Option Tg:=match eW sc N e with
 | some t=>some t
 | none=>match e with
  | .Tuple es _ _=>(cL (eX sc N) es).map .many
  | _=>none
inductive Sr where|seq (e:Expr)|rng (es:List Expr)|zip (a b:Expr)|rev (es:List Expr)|enm (a:Expr)
def i9 (sc:Scope):Expr->Sr
 | .Call (.Name f p) as [] pos =>
  if bf sc f&&f == Qa "range"&&(as.length == 1||as.length == 2||as.length == 3) then .rng as else
  if bf sc f&&f == Qa "zip" then (match as with|[a,b]=>.zip a b|_=>.seq (.Call (.Name f p) as [] pos)) else
  if bf sc f&&f == Qa "reversed" then (match as with
   | [.Call (.Name h _) [a] [] _]=>if bf sc h&&h == Qa "range" then .rev [a] else .seq (.Call (.Name f p) as [] pos)
   | _=>.seq (.Call (.Name f p) as [] pos)) else
  if bf sc f&&f == Qa "enumerate" then (match as with|[a]=>.enm a|_=>.seq (.Call (.Name f p) as [] pos)) else .seq (.Call (.Name f p) as [] pos)
 | e=>.seq e
noncomputable def kh:Tg->Bool
 | .two _ _=>true
 | _=>false
variable (G:Gx)
noncomputable def rF (c:Str):Option Mt:=G.meth.find? λu=>u.c == c
noncomputable def nX (m:Str):List (Nat×Nat):=(G.meth.filter λu=>u.m == m).map λu=>(u.kn.c,u.i)
noncomputable def jl:Expr->Bool
 | .Name _ _=>true
 | .Attribute _ _ _=>true
 | .Subscript _ _ _=>true
 | _=>false
noncomputable def mS (f:Str) (n:Nat):List C:=match G.dfl.lookup f with
 | some (m,d)=>if n=m then [.k (.int d)] else []
 | none=>[]
def jH (sc:Scope) (x:Str):Option C:=if bf sc x&&eB x then (G.cons.lookup x).map λi=>.k (.int i) else none
def oI (sc:Scope):Expr->Option (List (Str×Str))
 | .Name x _=>if bf sc x&&eB x then G.dcts.lookup x else none
 | _=>none
noncomputable def rm:List Expr->Option Expr
 | [a]=>some a
 | _=>none
noncomputable def oC (op:CmpOp):Expr->Option (Bool×Const)
 | .Constant c _ _=>match op with|.Is=>some (false,c)|.IsNot=>some (true,c)|_=>none
 | _=>none
def oq:Expr->Option (Option Expr×Option Expr)
 | .Slice lo hi none _=>some (lo,hi)
 | _=>none
mutual
def cE:Nat->Scope->List Str->Expr->Option C
 | 0,_,_,_=>none
 | n+1,sc,N,e=>match e with
  | .Name x _=>match ck sc N x with|some i=>some (.v i)|none=>jH G sc x
  | .Constant c _ _=>(pW c).map .k
  | .BinOp a op b _=>(xu op).bind λo=>(cE n sc N a).bind λx=>(cE n sc N b).bind λy=>some (.bin o x y)
  | .UnaryOp .USub a _=>(cE n sc N a).map .neg
  | .UnaryOp .Not a _=>(cE n sc N a).map .not
  | .BoolOp .And es _=>if 2<=es.length then i7 n sc N es else none
  | .BoolOp .Or es _=>if 2<=es.length then jG n sc N es else none
  | .Compare a [op] [b] _=>(oC op b).elim ((xy op).bind λo=>(cE n sc N a).bind λx=>(cE n sc N b).bind λy=>some (.cmp o x y)) λq=>(pW q.2).bind λd=>(cE n sc N a).bind λx=>some (.isC q.1 x d)
  | .Subscript a b _=>(oq b).elim ((oI G sc a).elim ((cE n sc N a).bind λx=>(cE n sc N b).bind λy=>some (.ix x y)) λkvs=>(cE n sc N b).map (.tbl kvs)) λq=>(cE n sc N a).bind λx=>(cO n sc N q.1).bind λl=>(cO n sc N q.2).bind λh=>some (.sl x l h)
  | .Tuple es _ _=>(eG n sc N es).map .tup
  | .List es _=>(eG n sc N es).map .lst
  | .Call (.Name f _) as [] _=>if bf sc f&&eB f then oG n sc N f as else (ck sc N f).bind λi=>(rm as).bind λa=>(cE n sc N a).map (.cv i)
  | .IfExp t a b _=>(cE n sc N t).bind λc=>(cE n sc N a).bind λx=>(cE n sc N b).bind λy=>some (.ifx c x y)
  | e=>cX n sc N e
def cX:Nat->Scope->List Str->Expr->Option C
 | 0,_,_,_=>none
 | n+1,sc,N,e=>match e with
  | .ListComp e [⟨tg,it,fs,0⟩] sc' _ =>
   if pF sc' then
    (eU sc' (aP sc'++aG sc') tg).bind λt=>(cL (fQ sc N) (aG sc')).bind λks=>(cE n sc' (aP sc'++aG sc') e).bind λc =>
     match fs with
     | []=>match i9 sc it with
       | .seq s=>(cE n sc N s).bind λx=>some (.compS c (aP sc').length ks t x)
       | .rng rs=>(eG n sc N rs).bind λxs=>some (.compR c (aP sc').length ks t xs)
       | .zip a b=>if kh t then (cE n sc N a).bind λx=>(cE n sc N b).bind λy=>some (.compZ c (aP sc').length ks t x y) else none
       | .rev _=>none
       | .enm a=>if kh t then (cE n sc N a).bind λx=>some (.compE c (aP sc').length ks t x) else none
     | [cd]=>(cE n sc' (aP sc'++aG sc') cd).bind λcc=>match i9 sc it with
       | .seq s=>(cE n sc N s).bind λx=>some (.compF c cc (aP sc').length ks t x)
       | _=>none
     | _=>none
   else none
  | .Attribute a f _=>if jl a then (G.flds.lookup f).bind λj=>(cE n sc N a).map λx=>.fld x j f else none
  | .Call (.Attribute a m p2) bs [] p3=>if jl a&&(p2.endLine == p3.line)&&decide (bs.length<30) then (cE n sc N a).bind λx=>(eG n sc N bs).map λys=>.mc x m (nX G m) ys else none
  | _=>none
def oG:Nat->Scope->List Str->Str->List Expr->Option C
 | 0,_,_,_,_=>none
 | n+1,sc,N,f,as=>match G.defs.lookup f with
  | some i=>if as.isEmpty then none else (eG n sc N as).map λxs=>.call i (xs++mS G f as.length)
  | none=>match rF G f with
   | some u=>(eG n sc N as).map (.mk u.kn)
   | none=>match f == Qa "isinstance",as with
   | true,[a,.Name t _]=>if bf sc t&&(G.defs.lookup t).isNone then (oy t).bind λty=>(cE n sc N a).bind λx=>some (.isi x ty) else none
   | false,as=>(rn f as.length).bind λb=>(eG n sc N as).map (.bi b)
   | _,_=>none
def eG:Nat->Scope->List Str->List Expr->Option (List C)
 | 0,_,_,_=>none
 | n+1,sc,N,es=>match es with
  | []=>some []
  | a::r=>(cE n sc N a).bind λx=>(eG n sc N r).bind λxs=>some (x::xs)
def cO:Nat->Scope->List Str->Option Expr->Option (Option C)
 | 0,_,_,_=>none
 | n+1,sc,N,o=>match o with
  | none=>some none
  | some e=>(cE n sc N e).map some
def i7:Nat->Scope->List Str->List Expr->Option C
 | 0,_,_,_=>none
 | n+1,sc,N,es=>match es with
  | [a]=>cE n sc N a
  | a::b::r=>(cE n sc N a).bind λx=>(i7 n sc N (b::r)).bind λy=>some (.and x y)
  | []=>none
def jG:Nat->Scope->List Str->List Expr->Option C
 | 0,_,_,_=>none
 | n+1,sc,N,es=>match es with
  | [a]=>cE n sc N a
  | a::b::r=>(cE n sc N a).bind λx=>(jG n sc N (b::r)).bind λy=>some (.or x y)
  | []=>none
end
def gN:Nat->List Str->List Stmt->List Nat
 | 0,_,_=>[]
 | _+1,_,[]=>[]
 | n+1,N,st::r=>(match st with
  | .Assign [.Subscript (.Name x _) _ _] _ _=>(bQ N x).toList
  | .Expr (.Call (.Attribute (.Name x _) m _) _ _ _) _=>if m == Qa "append"||m == Qa "extend"||m == Qa "pop" then (bQ N x).toList else []
  | .Assign _ (.Call (.Attribute (.Name x _) m _) _ _ _) _=>if m == Qa "pop" then (bQ N x).toList else []
  | .Assign _ (.Subscript (.Call (.Attribute (.Name x _) m _) _ _ _) _ _) _=>if m == Qa "pop" then (bQ N x).toList else []
  | .Expr (.Call (.Name _ _) (.Name x _::_) _ _) _=>(bQ N x).toList
  | .If _ a b _=>gN n N a++gN n N b
  | .For _ _ b _ _=>gN n N b
  | .While _ b _ _=>gN n N b
  | _=>[])++gN n N r
noncomputable def di (c:C) (r:List Nat):List Nat:=match c with
 | .v _=>[]
 | _=>r
mutual
def aJ:C->List Nat
 | .v i=>[i]
 | .k _=>[]
 | .bin _ a b=>di a (aJ a)++di b (aJ b)
 | .neg a=>di a (aJ a)
 | .cmp _ a b=>di a (aJ a)++di b (aJ b)
 | .isC _ a _=>di a (aJ a)
 | .and a b=>aJ a++aJ b
 | .or a b=>aJ a++aJ b
 | .not a=>aJ a
 | .ix a b=>di a (aJ a)++di b (aJ b)
 | .sl a _ _=>di a (aJ a)
 | .tup as=>gk as
 | .lst as=>gk as
 | .call _ as=>gk as
 | .bi _ as=>j2 as
 | .isi a _=>di a (aJ a)
 | .bitl a=>di a (aJ a)
 | .ifx c a b=>aJ c++aJ a++aJ b
 | .rev a=>di a (aJ a)
 | .join a b=>di a (aJ a)++di b (aJ b)
 | .fstr as=>gk as
 | .callP _ as ks _=>gk as++gk ks
 | .chn _ _ a b c=>di a (aJ a)++di b (aJ b)++di c (aJ c)
 | .compS e nl ks _ s=>di s (aJ s)++(aJ e).filterMap λj=>if nl<=j then ks[j - nl]? else none
 | .compR e nl ks _ rs=>j2 rs++(aJ e).filterMap λj=>if nl<=j then ks[j - nl]? else none
 | .compZ e nl ks _ a b=>aJ a++aJ b++(aJ e).filterMap λj=>if nl<=j then ks[j - nl]? else none
 | .compE e nl ks _ a=>aJ a++(aJ e).filterMap λj=>if nl<=j then ks[j - nl]? else none
 | .compF e c nl ks _ a=>aJ a++(aJ e++aJ c).filterMap λj=>if nl<=j then ks[j - nl]? else none
 | .compG e c nl ks _ rs=>j2 rs++(aJ e++aJ c).filterMap λj=>if nl<=j then ks[j - nl]? else none
 | .fld a _ _=>aJ a
 | .mk _ as=>gk as
 | .mc a _ _ bs=>aJ a++gk bs
 | .iso a _=>aJ a
 | .cntT a=>aJ a
 | .fmt a=>di a (aJ a)
 | .cv _ a=>aJ a
 | .tbl _ a=>aJ a
 | .lamc _ as _ _=>gk as
termination_by structural c=>c
def gk:List C->List Nat
 | []=>[]
 | a::r=>aJ a++gk r
termination_by structural c=>c
def j2:List C->List Nat
 | []=>[]
 | a::r=>di a (aJ a)++j2 r
termination_by structural c=>c
end
noncomputable def fu (mt:List Nat) (is:List Nat) (s:S):List S:=match is.filter (mt.contains ·) with
 | []=>[s]
 | js=>[.frz js,s]
def n6 (n:Nat) (sc:Scope) (N:List Str) (mt:List Nat) (x:Str) (e:Expr):Option (List S):=
 if sc.names.lookup x == some .local||sc.names.lookup x == some .cell then (bQ N x).bind λi=>if i == 0&&mt.contains i then none else (cE G n sc N e).bind λc=>some (fu mt (aJ c) (.set i (mt.contains i) c)) else none
noncomputable def oW:Expr->Option Str
 | .Name x _=>some x
 | _=>none
noncomputable def n5:Expr->Option (Str×Str×Pos)
 | .Attribute (.Name x _) m p2=>some (x,m,p2)
 | _=>none
def rz:Expr->Option (Str×Str×Pos×Pos)
 | .Call f [] [] p3=>(n5 f).map λy=>(y.1,y.2.1,y.2.2,p3)
 | _=>none
def B7 (n:Nat) (sc:Scope) (N:List Str) (mt:List Nat) (tg e:Expr):Option (List S):=match rz e with
 | some (x,m,p2,p3)=>if m == Qa "pop"&&p2.endLine == p3.line then (eU sc N tg).bind λt=>(ck sc N x).bind λi=>some [.pop t i] else (oW tg).bind λy=>n6 G n sc N mt y e
 | none=>(oW tg).bind λx=>n6 G n sc N mt x e
mutual
def cS:Nat->Scope->List Str->List Nat->Stmt->Option (List S)
 | 0,_,_,_,_=>none
 | n+1,sc,N,mt,st=>match st with
  | .Assign [tg] e _=>B7 G n sc N mt tg e
  | .Expr (.Call f [e] [] p3) _=>match n5 f with
   | some (x,m,p2)=>if m == Qa "append"&&p2.endLine == p3.line then (ck sc N x).bind λi=>(cE G n sc N e).bind λc=>some (fu mt (aJ c) (.app i c)) else
    if m == Qa "extend"&&p2.endLine == p3.line then (ck sc N x).bind λi=>(cE G n sc N e).bind λc=>some (fu mt (aJ c) (.ext i c)) else none
   | none=>none
  | .While t body [] _=>(cE G n sc N t).bind λc=>(f6 n sc N mt body).bind λb=>some (fu mt (aJ c) (.whl c b))
  | .Return (some e) _=>(cE G n sc N e).bind λc=>some (fu mt (di c (aJ c)) (.ret c))
  | .If t a b _=>(cE G n sc N t).bind λc=>(f6 n sc N mt a).bind λx=>(f6 n sc N mt b).bind λy=>some (fu mt (aJ c) (.ite c x y))
  | .For tg it body [] _=>(eU sc N tg).bind λt=>(f6 n sc N mt body).bind λb=>match i9 sc it with
   | .seq s=>(cE G n sc N s).bind λx=>some (fu mt (aJ x) (.forS t x b))
   | .rng rs=>(eG G n sc N rs).bind λxs=>some (fu mt (j2 xs) (.forR t xs b))
   | .zip a z=>if kh t then (cE G n sc N a).bind λx=>(cE G n sc N z).bind λy=>some (fu mt (aJ x++aJ y) (.forZ t x y b)) else none
   | .rev rs=>(eG G n sc N rs).bind λxs=>some (fu mt (j2 xs) (.forV t xs b))
   | .enm a=>if kh t then (cE G n sc N a).bind λx=>some (fu mt (aJ x) (.forE t x b)) else none
  | _=>none
def f6:Nat->Scope->List Str->List Nat->List Stmt->Option (List S)
 | 0,_,_,_,_=>none
 | n+1,sc,N,mt,st=>match st with
  | []=>some []
  | a::r=>(cS n sc N mt a).bind λx=>(f6 n sc N mt r).bind λy=>some (x++y)
end
noncomputable def aY (sc:Scope):List Str:=(sc.names.filter λp=>p.2 == .local||p.2 == .cell).map (·.1)
end Dw
namespace L2
open PySem PySem.Spec PyProof.Rows
abbrev cN:=Sum Int Str
noncomputable def ki:cN->Value->Bool
 | .inl k,v=>Value.isInt k v
 | .inr x,v=>Value.isStrOf x v
noncomputable def qT5 (w:World):cN->Int
 | .inl k=>hashInt k
 | .inr x=>hashStr w x
theorem g9:∀{k:cN}{v:Value},ki k v=true->(∃i t,k=Sum.inl i/\v=Value.int i t)∨(∃x t,k=Sum.inr x/\v=Value.str x t)
 | .inl i,v,h=>by
  obtain⟨t,e⟩:=Value.isInt_shape (k:=i) (v:=v) h
  exact .inl ⟨i,t,rfl,e⟩
 | .inr x,v,h=>by
  obtain⟨t,e⟩:=Value.isStrOf_shape (x:=x) (v:=v) h
  exact .inr ⟨x,t,rfl,e⟩
theorem qH2 (i:Int) (t:Tok):ki (.inl i) (.int i t)=true:=by simp [ki,Value.isInt]
theorem qH1 (x:Str) (t:Tok):ki (.inr x) (.str x t)=true:=by simp [ki,Value.isStrOf]
theorem qPN (a b:Int):decide ((Sum.inl a:cN)=Sum.inl b)=(a == b):=by
 by_cases e:a=b
 ·subst e;simp
 ·have h:¬(Sum.inl a:cN)=Sum.inl b:=λq=>e (Sum.inl.inj q)
  rw [Qj h]
  exact (beq_eq_false_iff_ne.mpr e).symm
theorem qPK (a b:Str):decide ((Sum.inr a:cN)=Sum.inr b)=decide (a=b):=by
 by_cases e:a=b
 ·subst e;simp
 ·have h:¬(Sum.inr a:cN)=Sum.inr b:=λq=>e (Sum.inr.inj q)
  rw [Qj h,Qj e]
theorem qPM (a:Int) (b:Str):decide ((Sum.inl a:cN)=Sum.inr b)=false:=Qj (λq=>nomatch q)
theorem qPL (a:Str) (b:Int):decide ((Sum.inr a:cN)=Sum.inl b)=false:=Qj (λq=>nomatch q)
def jy (prog:Program) (w:World):PySem.KeyKind prog w cN where
 is:=ki
 hash:=qT5 w
 inj:=λv a b ha hb=>by
  rcases g9 ha with ⟨i,t,rfl,rfl⟩|⟨x,t,rfl,rfl⟩
  ·rcases g9 hb with ⟨j,u,rfl,e⟩|⟨y,u,rfl,e⟩
   ·injection e with e1 _;rw [e1]
   ·exact nomatch e
  ·rcases g9 hb with ⟨j,u,rfl,e⟩|⟨y,u,rfl,e⟩
   ·exact nomatch e
   ·injection e with e1 _;rw [e1]
 byValue:=λk v h=>by
  rcases g9 h with ⟨i,t,rfl,rfl⟩|⟨x,t,rfl,rfl⟩<;>rfl
 pyHash:=λhv h=>by
  rcases g9 hv with ⟨i,t,rfl,rfl⟩|⟨x,t,rfl,rfl⟩
  ·exact wpAny_pyHash_int h
  ·exact wpAny_pyHash_str h
 eqBool:=λhu hv h=>by
  rcases g9 hu with ⟨i,t,rfl,rfl⟩|⟨x,t,rfl,rfl⟩
  ·rcases g9 hv with ⟨j,u,rfl,rfl⟩|⟨y,u,rfl,rfl⟩
   ·rw [qPN] at h;exact wpAny_eqBool_int h
   ·rw [qPM] at h;exact SeqAt.EqAt.int_str i t y u _ _ _ _ h
  ·rcases g9 hv with ⟨j,u,rfl,rfl⟩|⟨y,u,rfl,rfl⟩
   ·rw [qPL] at h;exact SeqAt.EqAt.str_int x t j u _ _ _ _ h
   ·rw [qPK] at h;exact wpAny_eqBool_str h
 «strs»:=λk x t v h=>by
  rcases g9 h with ⟨i,u,rfl,e⟩|⟨y,u,rfl,e⟩
  ·exact nomatch e
  ·injection e with e1 _
   subst e1
   cases v<;>rfl
theorem qE5 (prog:Program) (w:World) (i:Int) (t:Tok):(jy prog w).is (.inl i) (.int i t)=true:=qH2 i t
theorem qE4 (prog:Program) (w:World) (x:Str) (t:Tok):(jy prog w).is (.inr x) (.str x t)=true:=qH1 x t
end L2
namespace L2
open PySem PySem.Spec PyProof.Rows
inductive V where
 | non|bl (b:Bool)|int (i:Int)|str (x:Str)|byt (b:Array UInt8)|flt (b:UInt64)|ref (a:Addr)|ty (n:String)
 deriving DecidableEq
def RelV:V->Value->Prop
 | .non,u=>u=Value.none
 | .bl b,u=>u=Value.bool b
 | .int i,u=>∃t,u=Value.int i t
 | .str x,u=>∃t,u=Value.str x t
 | .byt b,u=>∃t,u=Value.bytes b t
 | .flt b,u=>∃t,u=Value.float b t
 | .ref a,u=>u=Value.ref a
 | .ty n,u=>u=Value.type n
abbrev Vals:List V->List Value->Prop:=Paired RelV
theorem Vals.length {xs:List V}{us:List Value}(r:Vals xs us):xs.length=us.length:=Paired.length r
theorem Vals.get:∀{xs:List V}{us:List Value}{i:Nat}{x:V},Vals xs us->xs[i]?=some x->∃u,us[i]?=some u/\RelV x u
 | _,_,_,_,.nil,e=>by simp at e
 | _,_,0,_,.cons r _,e=>by simp at e;subst e;exact⟨_,rfl,r⟩
 | _,_,i+1,x,.cons _ t,e=>by
  obtain⟨u,h1,h2⟩:=Vals.get (i:=i) (x:=x) t (by simpa using e)
  exact⟨u,by simpa using h1,h2⟩
theorem Vals.append:∀{xs ys:List V}{us ws:List Value},Vals xs us->Vals ys ws->Vals (xs++ys) (us++ws)
 | _,_,_,_,.nil,s=>s
 | _,_,_,_,.cons r t,s=>.cons r (Vals.append t s)
theorem Vals.take:∀{xs:List V}{us:List Value}(n:Nat),Vals xs us->Vals (xs.take n) (us.take n)
 | _,_,0,_=>.nil
 | _,_,_+1,.nil=>.nil
 | _,_,n+1,.cons r t=>.cons r (Vals.take n t)
theorem Vals.drop:∀{xs:List V}{us:List Value}(n:Nat),Vals xs us->Vals (xs.drop n) (us.drop n)
 | _,_,0,r=>r
 | _,_,_+1,.nil=>.nil
 | _,_,n+1,.cons _ t=>Vals.drop n t
def RelO:Option V->Option Value->Prop
 | some v,some u=>RelV v u
 | none,none=>True
 | _,_=>False
def KV {κ:Type}:List (κ×V)->List (κ×Value)->Prop:=Paired λ(p:κ×V) (q:κ×Value)=>p.1=q.1/\RelV p.2 q.2
noncomputable def kV:cN->V
 | .inl i=>.int i
 | .inr x=>.str x
inductive HO where
  | lst (xs:List V)
  | tup (xs:List V)
  | dK (kvs:List (cN×V))|dT (kvs:List (List cN×V))
  | set (S:Int->Bool) (n:Nat)
  | ins (C dx:Addr) (fs:List (Str×V))
  | own (x:Addr)
  | xd (fs:List (Str×V))
  | met (f x:Addr)
  | rng (lo hi:Int)
  | frz (o:Obj) (u:HO)
  | tbl (ps:Array Value)
 | tab (pos:Pos) (q:Str)
  | ext (φ:Heap->Prop)
abbrev Hp:=Addr->Option HO
def ay (H:Hp) (a:Addr) (o:HO):Hp:=λb=>if b=a then some o else H b
theorem cD {H:Hp}{a:Addr}{o:HO}:ay H a o a=some o:=by unfold ay;rw [Ql rfl]
theorem aD {H:Hp}{a b:Addr}{o:HO}(h:b≠a):ay H a o b=H b:=by unfold ay;rw [Qm h]
theorem Aw {H:Hp}{a:Addr}{o u:HO}:ay (ay H a o) a u=ay H a u:=by
 funext b;unfold ay;split<;>rfl
theorem bY {H:Hp}{a b:Addr}{o:HO}(h:H a=some o) (h':H b=none):a≠b:=by
 intro e;subst e;rw [h] at h';cases h'
section
variable (P:Program) (w:World)
def ObjOk (H:Hp) (h:Heap) (a:Addr):HO->Prop
 | .lst xs=>xs.length<=sizeLine/\∃(its:List Value) (n:Nat),Vals xs its/\h.get? a=some { cls:=.type "list",data:=.seq its.toArray n }
 | .tup xs=>xs.length<=sizeLine/\∃its:List Value,Vals xs its/\IsTup h a its.toArray
 | .dK kvs=>kvs.length<=sizeLine/\(a == sysModules)=false/\∃vs,KV kvs vs/\h.DictOf (jy P w) a vs
 | .dT kvs=>kvs.length<=sizeLine/\(a == sysModules)=false/\∃xs:List (List cN×Addr×Value),
   Paired (λ(p:List cN×V) (q:List cN×Addr×Value)=>p.1=q.1/\H q.2.1=some (.tup (p.1.map kV))/\RelV p.2 q.2.2) kvs xs /\
   ∃o es ep,h.get? a=some o/\o.ExactDict/\o.data=.dict es ep/\es.toList=xs.map (entryOfKey (tupleKind (jy P w)))/\(xs.map (·.1)).Nodup
 | .set S n=>h.SetOf (intKind P w) a S n
 | .ins C dx fs=>H dx=some (.own a)/\fs.length<=1000/\dx≠a/\h.get? a=some (PySem.W.instObj C dx) /\
   ∃mA,h.Ns1 dx mA/\(∀f,RelO (fs.lookup f) (mA f))/\PySem.Within mA (fs.map (·.1))
 | .own _=>∃o,h.get? a=some o
 | .xd fs=>∃mA,h.Ns1 a mA/\∀f,RelO (fs.lookup f) (mA f)
 | .rng lo hi=>∃t u v,h.get? a=some { cls:=.type "range",data:=.fields #[.int lo t,.int hi u,.int 1 v] }
 | .frz o u=>h.get? a=some o/\ObjOk H h a u
 | .tbl ps=>h.get? a=some { cls:=.none,data:=.fields ps }
 | .met f x=>h.get? a=some (PySem.W.methodObj (.ref f) (.ref x))
 | .tab pos q=>∃ps:Array Value,h.get? a=some { cls:=.none,data:=.fields ps }/\PySem.TriplesOk ps.toList/\(PySem.codeAmong pos ps.toList=none ∨
   ∃(c:Addr) (oc:Obj) (u:HO) (vs:Array Value) (t:Tok),PySem.codeAmong pos ps.toList=some (.ref c)/\H c=some (.frz oc u)/\oc.data=.fields vs/\vs[1]?=some (.str q t))
 | .ext φ=>φ h/\(∃o,h.get? a=some o)/\∀h1 h2:Heap,φ h1->(∀o,h1.get? a=some o->h2.get? a=some o)->φ h2
def HOk (H:Hp) (h:Heap):Prop:=∀a o,H a=some o->ObjOk P w H h a o
end
section
variable {P:Program}{w:World}{H H':Hp}{h h':Heap}{a:Addr}{o:HO}
theorem ObjOk.lt (x:ObjOk P w H h a o):a<h.objs.size:=by
 cases o with
 | lst xs=>obtain⟨_,_,_,_,e⟩:=x;exact Qi e
 | tup xs=>obtain⟨_,_,_,p⟩:=x;exact p.lt
 | dK kvs=>obtain⟨_,_,_,_,o,_,_,e,_⟩:=x;exact Qi e
 | dT kvs=>obtain⟨_,_,_,_,o,_,_,e,_⟩:=x;exact Qi e
 | set S n=>obtain⟨o,_,_,_,e,_⟩:=x;exact Qi e
 | ins C dx fs=>obtain⟨_,_,_,e,_⟩:=x;exact Qi e
 | own y=>obtain⟨_,e⟩:=x;exact Qi e
 | xd fs=>obtain⟨_,⟨_,_,_,e,_⟩,_⟩:=x;exact Qi e
 | rng lo hi=>obtain⟨_,_,_,e⟩:=x;exact Qi e
 | frz ob u=>obtain⟨e,_⟩:=x;exact Qi e
 | tbl ps=>exact Qi (show h.get? a=some _ from x)
 | met f y=>exact Qi (show h.get? a=some _ from x)
 | tab pos q=>obtain⟨_,e,_⟩:=x;exact Qi e
 | ext φ=>obtain⟨_,⟨_,e⟩,_⟩:=x;exact Qi e
theorem Paired.mapP {α β:Type}{F G:α->β->Prop}:∀{l₁:List α}{l₂:List β},Paired F l₁ l₂->(∀a b,F a b->G a b)->Paired G l₁ l₂
 | _,_,.nil,_=>.nil
 | _,_,.cons r t,f=>.cons (f _ _ r) (Paired.mapP t f)
theorem ObjOk.stay (x:ObjOk P w H h a o) (k:∀b u,(b=a∨H b=some (.own a))->h.get? b=some u->h'.get? b=some u)
  (ho:∀b,H b=some (.own a)->H' b=some (.own a)) (ht:∀b xs,H b=some (.tup xs)->H' b=some (.tup xs)) (hf:∀b ob u vs,H b=some (.frz ob u)->ob.data=.fields vs->H' b=some (.frz ob u)):ObjOk P w H' h' a o:=by
 induction o with
 | lst xs=>obtain⟨z,its,n,r,e⟩:=x;exact⟨z,its,n,r,k _ _ (.inl rfl) e⟩
 | tup xs=>obtain⟨z,its,r,ob,e,c⟩:=x;exact⟨z,its,r,ob,k _ _ (.inl rfl) e,c⟩
 | dK kvs=>obtain⟨z,y,vs,r,ob,es,ep,e,c⟩:=x;exact⟨z,y,vs,r,ob,es,ep,k _ _ (.inl rfl) e,c⟩
 | dT kvs =>
  obtain⟨z,y,xs,r,ob,es,ep,e,c⟩:=x
  exact⟨z,y,xs,Paired.mapP r λp q z=>⟨z.1,ht _ _ z.2.1,z.2.2⟩,ob,es,ep,k _ _ (.inl rfl) e,c⟩
 | set S n=>obtain⟨ob,es,ep,t,e,c⟩:=x;exact⟨ob,es,ep,t,k _ _ (.inl rfl) e,c⟩
 | ins C dx fs =>
  obtain⟨d,z,ne,e,mA,⟨od,es,ep,e2,c⟩,r⟩:=x
  exact⟨ho _ d,z,ne,k _ _ (.inl rfl) e,mA,⟨od,es,ep,k _ _ (.inr d) e2,c⟩,r⟩
 | own y=>obtain⟨ob,e⟩:=x;exact⟨ob,k _ _ (.inl rfl) e⟩
 | xd fs=>obtain⟨mA,⟨od,es,ep,e,c⟩,r⟩:=x;exact⟨mA,⟨od,es,ep,k _ _ (.inl rfl) e,c⟩,r⟩
 | rng lo hi=>obtain⟨t,u,v,e⟩:=x;exact⟨t,u,v,k _ _ (.inl rfl) e⟩
 | frz ob u ih=>obtain⟨e,q⟩:=x;exact⟨k _ _ (.inl rfl) e,ih q⟩
 | tbl ps =>
  have e:h.get? a=some { cls:=.none,data:=.fields ps }:=x
  show h'.get? a=some { cls:=.none,data:=.fields ps }
  exact k a _ (.inl rfl) e
 | met f y =>
  have e:h.get? a=some (PySem.W.methodObj (.ref f) (.ref y)):=x
  show h'.get? a=some (PySem.W.methodObj (.ref f) (.ref y))
  exact k a _ (.inl rfl) e
 | tab pos q =>
  obtain⟨ps,e,ok,r⟩:=x
  refine⟨ps,k _ _ (.inl rfl) e,ok,r.imp id ?_⟩
  rintro⟨c,oc,u,vs,t,e1,e2,e4,e5⟩
  exact⟨c,oc,u,vs,t,e1,hf _ _ _ _ e2 e4,e4,e5⟩
 | ext φ=>obtain⟨p,⟨o,e⟩,st⟩:=x;exact⟨st _ _ p λo q=>k _ _ (.inl rfl) q,⟨o,k _ _ (.inl rfl) e⟩,st⟩
theorem HOk.lt (x:HOk P w H h) (e:H a=some o):a<h.objs.size:=(x a o e).lt
theorem HOk.fresh (x:HOk P w H h) (e:h.objs.size<=a):H a=none:=by
 cases q:H a with
 | none=>rfl
 | some u=>exact Qn (cw (x.lt q) e) (fh _)
theorem HOk.kept (x:HOk P w H h) (k:∀b u,h.get? b=some u->h'.get? b=some u):HOk P w H h':=λa o e =>
 (x a o e).stay (λb u _ q=>k b u q) (λ_ q=>q) (λ_ _ q=>q) λ_ _ _ _ q _=>q
theorem HOk.laid (x:HOk P w H h) (k:∀b u,h.get? b=some u->h'.get? b=some u) (hp:h.objs.size<=a) (new:ObjOk P w (ay H a o) h' a o):HOk P w (ay H a o) h':=λb u e=>by
 have hn:=x.fresh hp
 by_cases hb:b=a
 ·subst hb;rw [cD] at e;cases e;exact new
 ·rw [aD hb] at e
  exact (x b u e).stay (λc v _ q=>k c v q) (λc q=>by rw [aD (bY q hn)];exact q) (λc xs q=>by rw [aD (bY q hn)];exact q) λc ob u _ q _=>by rw [aD (bY q hn)];exact q
end
def Rd (H:Hp) (a:Addr) (u:HO):Prop:=H a=some u∨∃o,H a=some (.frz o u)
theorem Rd.ok {P:Program}{w:World}{H:Hp}{h:Heap}{a:Addr}{u:HO}(r:Rd H a u) (x:HOk P w H h):ObjOk P w H h a u:=by
 rcases r with r|⟨o,r⟩
 ·exact x a u r
 ·obtain⟨_,q⟩:=x a _ r
  exact q
def p8:Option HO->Prop
 | some (.lst _)=>True
 | some (.dK _)=>True
 | some (.dT _)=>True
 | some (.set _ _)=>True
 | some (.ins _ _ _)=>True
 | some (.ext _)=>True
 | _=>False
section
variable {P:Program}{w:World}{H:Hp}{h h':Heap}{x e:Addr}{o':HO}
theorem HOk.write (ok:HOk P w H h) (mu:p8 (H x)) (he:e=x∨H e=some (.own x)) (k:∀b u,b≠e->h.get? b=some u->h'.get? b=some u) (heo:∃u,h'.get? e=some u)
  (new:ObjOk P w (ay H x o') h' x o'):HOk P w (ay H x o') h':=λb u q=>by
 have nown:∀c y,H c=some (.own y)->c≠x:=λc y r z=>by subst z;rw [r] at mu;exact mu
 have ntup:∀c xs,H c=some (.tup xs)->c≠x:=λc xs r z=>by subst z;rw [r] at mu;exact mu
 by_cases hb:b=x
 ·subst hb;rw [cD] at q;cases q;exact new
 ·rw [aD hb] at q
  by_cases hbe:b=e
  ·have q':H b=some (.own x):=by
    rcases he with z|z
    ·exact Qn (hbe.trans z) hb
    ·rw [hbe];exact z
   rw [q] at q';cases q'
   obtain⟨v,hv⟩:=heo
   exact⟨v,by rw [hbe];exact hv⟩
  ·refine (ok b u q).stay (λc v hc r=>k c v ?_ r) (λc r=>by rw [aD (nown c b r)];exact r) (λc xs r=>by rw [aD (ntup c xs r)];exact r) λc ob u _ r _=>by rw [aD (λz=>by subst z;rw [r] at mu;exact mu)];exact r
   rcases hc with rfl|hc
   ·exact hbe
   ·rintro rfl
    rcases he with z|z
    ·exact nown c b hc z
    ·rw [hc] at z;cases z;exact hb rfl
end
structure Un (fs ex:List Addr) (H H':Hp) (h h':Heap):Prop where
 keep:∀b o,h.get? b=some o->H b=none->b∉fs->b∉ex->h'.get? b=some o
 slot:∀b o,h.get? b=some o->H b=none->b∈fs->b∉ex->∃sl,h'.get? b=some { o with slots:=sl }
 free:∀b o,h.get? b=some o->H b=none->b∉ex->H' b=none
 there:∀b o,h.get? b=some o->b∉ex->∃o',h'.get? b=some o'
 tups:∀b xs,H b=some (.tup xs)->H' b=some (.tup xs)
 frzs:∀b o u,H b=some (.frz o u)->H' b=some (.frz o u)
 tbls:∀b ps,H b=some (.tbl ps)->∃more,H' b=some (.tbl (ps++more))
section
variable {fs fs' ex ex':List Addr}{H H1 H2:Hp}{h h1 h2 h':Heap}{a x e:Addr}{o:HO}
theorem Un.any (u:Un fs ex H H1 h h1) {b:Addr}{ob:Obj}(q:h.get? b=some ob) (n:H b=none) (hx:b∉ex):∃sl,h1.get? b=some { ob with slots:=sl }:=by
 by_cases hb:b∈fs
 ·exact u.slot b ob q n hb hx
 ·exact⟨ob.slots,u.keep b ob q n hb hx⟩
theorem Un.kept (k:∀b u,h.get? b=some u->h'.get? b=some u):Un fs ex H H h h':=
 ⟨λb ob q _ _ _=>k b ob q,λb ob q _ _ _=>⟨ob.slots,k b ob q⟩,λ_ _ _ n _=>n,λb ob q _=>⟨ob,k b ob q⟩,λ_ _ q=>q,λ_ _ _ q=>q,λ_ ps q=>⟨#[],by rw [q];simp⟩⟩
theorem Un.refl:Un fs ex H H h h:=Un.kept λ_ _ q=>q
theorem Un.laid (k:∀b u,h.get? b=some u->h'.get? b=some u) (hp:h.objs.size<=a) (hn:H a=none):Un fs ex H (ay H a o) h h' where
 keep:=λb u q _ _ _=>k b u q
 slot:=λb u q _ _ _=>⟨u.slots,k b u q⟩
 free:=λb u q n _=>by rw [aD (bR (cw (Qi q) hp))];exact n
 there:=λb u q _=>⟨u,k b u q⟩
 tups:=λb xs q=>by rw [aD (bY q hn)];exact q
 frzs:=λb u xs q=>by rw [aD (bY q hn)];exact q
 tbls:=λb ps q=>⟨#[],by rw [aD (bY q hn),q];simp⟩
theorem Un.write (mu:p8 (H x)) (he:e=x∨H e=some (.own x)) (k:∀b u,b≠e->h.get? b=some u->h'.get? b=some u) (heo:∃u,h'.get? e=some u):Un fs ex H (ay H x o) h h':=by
 have hx:∀b,H b=none->b≠x:=λb n z=>by subst z;rw [n] at mu;exact mu
 have hb:∀b,H b=none->b≠e:=λb n z=>by
  subst z
  rcases he with r|r
  ·exact hx b n r
  ·rw [n] at r;cases r
 have hm:∀b u,H b=some u->¬p8 (some u)->b≠x:=λb u q nm z=>by subst z;rw [q] at mu;exact nm mu
 refine⟨λb u q n _ _=>k b u (hb b n) q,λb u q n _ _=>⟨u.slots,k b u (hb b n) q⟩,λb u q n _=>by rw [aD (hx b n)];exact n,λb u q _=>?_,
  λb xs q=>by rw [aD (hm b _ q λz=>z)];exact q,λb u xs q=>by rw [aD (hm b _ q λz=>z)];exact q,λb ps q=>⟨#[],by rw [aD (hm b _ q λz=>z),q];simp⟩⟩
 by_cases hbe:b=e
 ·subst hbe;exact heo
 ·exact⟨u,k b u hbe q⟩
end
noncomputable def nW (h:Heap) (H:Hp):List Addr:=(List.range h.objs.size).filter λa=>(H a).isSome
def iu (h:Heap) (H:Hp):Heap:=PySem.W.hideAll h (nW h H)
theorem qH9 (h:Heap) (H:Hp):(iu h H).objs.size=h.objs.size:=PySem.W.hideAll_size _ _
theorem A5 {h:Heap}{H:Hp}{b:Addr}{o:Obj}(e:h.get? b=some o) (n:H b=none):(iu h H).get? b=some o:=
 PySem.W.hideAll_get _ e λhm=>by
  have q:(H b).isSome=true:=(ybc.mp hm).2
  rw [n] at q;simp at q
theorem qM7 {h:Heap}{H:Hp}{b:Addr}{o:Obj}(e:(iu h H).get? b=some o):h.get? b=some o/\H b=none:=by
 have e':h.get? b=some o:=PySem.W.of_hideAll (nW h H) e
 refine⟨e',?_⟩
 cases q:H b with
 | none=>rfl
 | some x =>
  have hm:b∈nW h H:=ybc.mpr ⟨List.mem_range.mpr (Qi e'),by simp [q]⟩
  have z:(iu h H).get? b=none:=PySem.W.hideAll_none (nW h H) hm
  rw [z] at e;cases e
noncomputable def qNV (g h:Heap) (L:Addr):List (Addr×Obj):=(List.range h.objs.size).filterMap λa=>if a=L∨(g.get? a).isSome=true then none else (h.get? a).map λo=>(a,o)
def rest (g h:Heap) (L d:Addr):List (Addr×Obj):=(qNV g h L).filter λp=>decide (p.1≠d)
end L2
namespace L2
open PySem PySem.Spec PyProof.Rows
structure Mod (K:Qb) (mg:Str->Option Value) (base:Heap):Prop where
 kin:K.In base
 glob:base.Ns mainGlobals mg
 blt:∃mb,base.Ns builtinsNs mb/\∀x:Str,x≠"__name__"->mb x=Qo x
 nolimit:base.NoLimit
structure Cx where
 prog:Program
 w:World
 K:Qb
 mg:Str->Option Value
 base:Heap
 A:Around
 N:List Str
 s₀:Shared
 H₀:Hp
 env:Env
 outer:List Env
 stack:List Env
 ex:List Addr
 fn:Str->Bool
 calm:Bool
 pn:List (Addr×Obj)
 xe:Value->Shared->Prop
noncomputable def eQ (l:List Env):List Addr:=l.filterMap (·.frame)
abbrev Cx.fs (X:Cx):List Addr:=eQ X.outer
def jI (sc:Scope) (x:Str):Prop:=sc.names.lookup x=some .local∨sc.names.lookup x=some .cell∨sc.names.lookup x=some .free
def k9 (sc:Scope) (x:Str):Prop:=sc.names.lookup x=some .local∨sc.names.lookup x=some .cell
def qUp (env:Env) (h:Heap) (m:Str->Option Value) (x:Str) (u:Value):Prop:=
 (env.kindOf x=some .local/\m x=some u)∨((env.kindOf x=some .cell∨env.kindOf x=some .free)/\∃c,env.cells.lookup x=some c/\h.IsCell c (some u))
structure Cx.Ok (X:Cx):Prop where
 mod:Mod X.K X.mg X.base
 kind:X.env.scope.kind=.function
 glob:X.env.globals=mainGlobals
 blt:X.env.builtins=builtinsNs
 above:X.s₀.heap.objs.size<=X.env.locals
 inj:∀x y c,X.env.cells.lookup x=some c->X.env.cells.lookup y=some c->x=y
 has:∀x,(X.env.kindOf x=some .cell∨X.env.kindOf x=some .free)->∃c,X.env.cells.lookup x=some c
 cab:∀x c,X.fn x=true->X.env.cells.lookup x=some c->X.s₀.heap.objs.size<=c
 hd:X.calm=true->X.A.handled=none
 frames:X.A.frames=some X.stack
 stk:X.stack=X.outer∨(X.stack=X.env::X.outer/\X.env.frame=some X.env.locals)
 exf:∀b∈X.ex,b≠X.env.locals/\∀x c,X.env.cells.lookup x=some c->c≠b
 bs:∀b o,X.base.get? b=some o->X.s₀.heap.get? b=some o/\X.H₀ b=none
 bsz:X.base.objs.size<=X.s₀.heap.objs.size
 noex:∀b o,X.base.get? b=some o->b∉X.ex
 exfs:∀b∈X.ex,b∉X.fs
 funs:X.s₀.heap.FunFrames X.base X.outer
 frf:∀b∈X.fs,X.H₀ b=none
structure Inv (X:Cx) (pins:List (Addr×Obj)) (Z:List (Option V)) (H:Hp) (s:Shared):Prop where
 ok:X.Ok
 os:s.os=X.s₀.os
 bare:AllBare s.gens
 base:Un X.fs X.ex X.H₀ H X.s₀.heap s.heap
 loc:∃m,s.heap.Ns X.env.locals m/\∀(i:Nat) (x:Str) (v:V),X.N[i]?=some x->Z[i]?=some (some v)->jI X.env.scope x->∃u,RelV v u/\qUp X.env s.heap m x u
 cell:∀x c,X.env.cells.lookup x=some c->∃v,s.heap.IsCell c v
 free:H X.env.locals=none
 freeC:∀x c,X.env.cells.lookup x=some c->H c=none
 pin:∀p∈X.pn++pins,s.heap.get? p.1=some p.2/\H p.1=none/\p.1≠X.env.locals/\p.1∉X.fs/\∀v,p.2.data≠.cell v
 hok:HOk X.prog X.w H s.heap
 len:Z.length=X.N.length
section
variable {X:Cx}{pins:List (Addr×Obj)}{Z:List (Option V)}{H H':Hp}{s:Shared}{h':Heap}
theorem Cx.Ok.nofr (ok:X.Ok) {b:Addr}{o:Obj}(e:X.base.get? b=some o):b∉X.fs:=λhb=>by
 have:=(ok.funs.mem hb).1
 rw [e] at this;cases this
theorem Inv.bs (I:Inv X pins Z H s):∀b o,X.base.get? b=some o->s.heap.get? b=some o/\H b=none:=λb o e =>
 ⟨I.base.keep b o (I.ok.bs b o e).1 (I.ok.bs b o e).2 (I.ok.nofr e) (I.ok.noex b o e),I.base.free b o (I.ok.bs b o e).1 (I.ok.bs b o e).2 (I.ok.noex b o e)⟩
theorem Inv.bk (I:Inv X pins Z H s):∀b o,X.base.get? b=some o->s.heap.get? b=some o:=λb o e=>(I.bs b o e).1
theorem Inv.mod (I:Inv X pins Z H s):Mod X.K X.mg X.base:=I.ok.mod
theorem Inv.kIn (I:Inv X pins Z H s):X.K.In s.heap:=I.ok.mod.kin.keeps I.bk
theorem Inv.lt (I:Inv X pins Z H s):X.env.locals<s.heap.objs.size:=let ⟨_,hn,_⟩:=I.loc;hn.lt
theorem Inv.sz (I:Inv X pins Z H s):X.s₀.heap.objs.size<=s.heap.objs.size:=dM I.ok.above (nQ I.lt)
theorem Inv.nofs (I:Inv X pins Z H s) {a:Addr}(h:s.heap.objs.size<=a):a∉X.fs:=λhb=>by
 obtain⟨_,o,ho,_⟩:=I.ok.funs.mem hb
 exact Qn (cw (Qi ho) (dM I.sz h)) (fh _)
theorem Inv.cne (I:Inv X pins Z H s):∀x c,X.env.cells.lookup x=some c->c≠X.env.locals:=λx c e z=>by
 obtain⟨v,o,ho,hd⟩:=I.cell x c e
 obtain⟨m,⟨o',es,ep,ho',hd',_⟩,_⟩:=I.loc
 rw [z,ho'] at ho;cases ho;rw [hd'] at hd;cases hd
theorem Inv.funs (I:Inv X pins Z H s):s.heap.FunFrames X.base X.outer:=by
 have all:∀(l:List Env),(∀b∈eQ l,b∈X.fs)->X.s₀.heap.FunFrames X.base l->s.heap.FunFrames X.base l:=by
  intro l
  induction l with
  | nil=>intro _ _;trivial
  | cons env r ih =>
   intro hs hl
   obtain⟨hk,⟨L,o,hf,hn,ho,hd⟩,hr⟩:=hl
   have hL:L∈X.fs:=hs L (by unfold eQ;rw [nL,hf];exact dF)
   obtain⟨sl,e⟩:=I.base.slot L o ho (I.ok.frf L hL) hL λz=>I.ok.exfs L z hL
   exact⟨hk,⟨L,_,hf,hn,e,hd⟩,ih (λb hb=>hs b (by unfold eQ;rw [nL,hf];exact dq _ hb)) hr⟩
 exact all X.outer (λ_ hb=>hb) I.ok.funs
theorem Inv.stack (I:Inv X pins Z H s):s.heap.FunFrames X.base X.stack:=by
 rcases I.ok.stk with e|⟨e,hf⟩
 ·rw [e];exact I.funs
 ·rw [e]
  obtain⟨m,hn,_⟩:=I.loc
  refine .cons (by rw [I.ok.kind];decide) hf hn ?_ I.funs
  exact Heap.get?_none_of_le (dM I.ok.bsz I.ok.above)
theorem Inv.stkSub (I:Inv X pins Z H s):∀b∈eQ X.stack,b∈X.env.locals::X.fs:=λb hb=>by
 rcases I.ok.stk with e|⟨e,hf⟩
 ·rw [e] at hb;exact dq _ hb
 ·rw [e] at hb
  unfold eQ at hb
  rw [nL,hf] at hb
  exact hb
theorem Inv.stkFree (I:Inv X pins Z H s):∀b∈eQ X.stack,H b=none:=λb hb=>by
 rcases yaf.mp (I.stkSub b hb) with e|hb
 ·rw [e];exact I.free
 ·obtain⟨_,o,ho,_⟩:=I.ok.funs.mem hb
  exact I.base.free b o ho (I.ok.frf b hb) λz=>I.ok.exfs b z hb
theorem Inv.step {g':Array GenState}{t':Nat}{d':Drawn}{ch:List Addr}(I:Inv X pins Z H s)
  (hch:∀b∈ch,(b∈X.ex∨X.s₀.heap.objs.size<=b)/\b≠X.env.locals/\(∀x c,X.env.cells.lookup x=some c->c≠b)/\∀p∈X.pn++pins,p.1≠b)
  (keep:∀b o,b≠X.env.locals->b∉X.fs->b∉ch->s.heap.get? b=some o->H b=none->h'.get? b=some o)
  (slot:∀b o,b≠X.env.locals->b∈X.fs->b∉ch->s.heap.get? b=some o->H b=none->∃sl,h'.get? b=some { o with slots:=sl }) (free:∀b o,b∉ch->s.heap.get? b=some o->H b=none->H' b=none)
  (there:∀b o,b∉ch->s.heap.get? b=some o->∃o',h'.get? b=some o')
  (tups:∀b xs,H b=some (.tup xs)->H' b=some (.tup xs)) (frzs:∀b o u,H b=some (.frz o u)->H' b=some (.frz o u)) (tbls:∀b ps,H b=some (.tbl ps)->∃more,H' b=some (.tbl (ps++more)))
  (ns:∀m,s.heap.Ns X.env.locals m->h'.Ns X.env.locals m) (hok:HOk X.prog X.w H' h') (hg:AllBare g') :
  Inv X pins Z H' { s with heap:=h',gens:=g',drawn:=d',toks:=t' }:=by
 have neL:∀b o,X.s₀.heap.get? b=some o->b≠X.env.locals:=λb o e=>bR (cw (Qi e) I.ok.above)
 have neC:∀b o,X.s₀.heap.get? b=some o->b∉X.ex->b∉ch:=λb o e hx hb=>by
  rcases (hch b hb).1 with z|z
  ·exact hx z
  ·exact Qn (cw (Qi e) z) (fh _)
 have cellK:∀x c,X.env.cells.lookup x=some c->∀v,s.heap.IsCell c v->h'.IsCell c v:=λx c e v ⟨o,ho,hd⟩=>by
  have nch:c∉ch:=λz=>(hch c z).2.2.1 x c e rfl
  by_cases hc:c∈X.fs
  ·obtain⟨sl,q⟩:=slot c o (I.cne x c e) hc nch ho (I.freeC x c e)
   exact⟨_,q,hd⟩
  ·exact⟨o,keep c o (I.cne x c e) hc nch ho (I.freeC x c e),hd⟩
 refine⟨I.ok,I.os,hg,⟨λb o e n hb hx=>?_,λb o e n hb hx=>?_,λb o e n hx=>?_,λb o e hx=>?_,λb xs e=>tups b xs (I.base.tups b xs e),λb o xs e=>frzs b o xs (I.base.frzs b o xs e),λb ps e=>?_⟩,?_,λx c e=>?_,?_,λx c e=>?_,λp hp=>?_,hok,I.len⟩
 ·exact keep b o (neL b o e) hb (neC b o e hx) (I.base.keep b o e n hb hx) (I.base.free b o e n hx)
 ·obtain⟨sl,e1⟩:=I.base.slot b o e n hb hx
  obtain⟨sl',e2⟩:=slot b _ (neL b o e) hb (neC b o e hx) e1 (I.base.free b o e n hx)
  exact⟨sl',e2⟩
 ·obtain⟨o',e1⟩:=I.base.there b o e hx
  exact free b o' (neC b o e hx) e1 (I.base.free b o e n hx)
 ·obtain⟨o',e1⟩:=I.base.there b o e hx
  exact there b o' (neC b o e hx) e1
 ·obtain⟨m1,e1⟩:=I.base.tbls b ps e
  obtain⟨m2,e2⟩:=tbls b _ e1
  exact⟨m1++m2,by rw [e2,Array.append_assoc]⟩
 ·obtain⟨m,hn,hl⟩:=I.loc
  refine⟨m,ns m hn,λi x v e1 e2 e3=>?_⟩
  obtain⟨u,r,l⟩:=hl i x v e1 e2 e3
  refine⟨u,r,?_⟩
  rcases l with l|⟨k,c,e,z⟩
  ·exact .inl l
  ·exact .inr ⟨k,c,e,cellK x c e _ z⟩
 ·obtain⟨v,z⟩:=I.cell x c e
  exact⟨v,cellK x c e v z⟩
 ·obtain⟨m,⟨o,_,_,ho,_⟩,_⟩:=I.loc
  exact free _ o (λz=>(hch _ z).2.1 rfl) ho I.free
 ·obtain⟨v,o,ho,hd⟩:=I.cell x c e
  exact free c o (λz=>(hch c z).2.2.1 x c e rfl) ho (I.freeC x c e)
 ·obtain⟨e,n,ne,nf,d⟩:=I.pin p hp
  have nch:p.1∉ch:=λz=>(hch p.1 z).2.2.2 p hp rfl
  exact⟨keep p.1 p.2 ne nf nch e n,free p.1 p.2 nch e n,ne,nf,d⟩
theorem Inv.un {t':Nat}(I:Inv X pins Z H s) (u:Un X.fs [] H H' s.heap h') (hok:HOk X.prog X.w H' h'):Inv X pins Z H' { s with heap:=h',toks:=t' }:=by
 obtain⟨m,⟨o,es,ep,ho,r⟩,_⟩:=id I.loc
 obtain⟨sl,hL⟩:=u.any ho I.free (by simp)
 exact I.step (g':=s.gens) (d':=s.drawn) (ch:=[]) (λ_ z=>nomatch z) (λb o _ hb _ e n=>u.keep b o e n hb (by simp)) (λb o _ hb _ e n=>u.slot b o e n hb (by simp)) (λb o _ e n=>u.free b o e n (by simp)) (λb o _ e=>u.there b o e (by simp)) u.tups u.frzs u.tbls (λm' hm=>by
  obtain⟨o',es',ep',ho',r'⟩:=hm
  rw [ho] at ho';cases ho'
  exact⟨_,es',ep',hL,r'⟩) hok I.bare
theorem Inv.call {g':Array GenState}{t':Nat}{d':Drawn}{ch:List Addr}(I:Inv X pins Z H s) (u:Un (eQ X.stack) ch H H' s.heap h') (hok:HOk X.prog X.w H' h') (hg:AllBare g')
  (hch:∀b∈ch,(b∈X.ex∨X.s₀.heap.objs.size<=b)/\b≠X.env.locals/\(∀x c,X.env.cells.lookup x=some c->c≠b)/\∀p∈X.pn++pins,p.1≠b) :
  Inv X pins Z H' { s with heap:=h',gens:=g',drawn:=d',toks:=t' }:=by
 obtain⟨m,⟨o,es,ep,ho,r⟩,_⟩:=id I.loc
 obtain⟨sl,hL⟩:=u.any ho I.free λz=>(hch _ z).2.1 rfl
 exact I.step (ch:=ch) hch (λb o hL hb hc e n=>u.keep b o e n (λz=>(yaf.mp (I.stkSub b z)).elim hL hb) hc) (λb o _ _ hc e n=>u.any e n hc) (λb o hc e n=>u.free b o e n hc) (λb o hc e=>u.there b o e hc) u.tups u.frzs u.tbls (λm' hm=>by
  obtain⟨o',es',ep',ho',r'⟩:=hm
  rw [ho] at ho';cases ho'
  exact⟨_,es',ep',hL,r'⟩) hok hg
theorem Inv.turned {t':Nat}{it:Addr}(I:Inv X pins Z H s) (k:∀b o,b≠it->s.heap.get? b=some o->h'.get? b=some o) (hn:H it=none) (hL:it≠X.env.locals)
  (h1:it∈X.ex∨X.s₀.heap.objs.size<=it) (h2:∀x c,X.env.cells.lookup x=some c->c≠it) (h3:∀p∈X.pn++pins,p.1≠it):Inv X pins Z H { s with heap:=h',toks:=t' }:=by
 have nit:∀b u,H b=some u->b≠it:=λb u e z=>by rw [z,hn] at e;cases e
 refine I.step (g':=s.gens) (d':=s.drawn) (ch:=[it]) (λb hb=>?_) (λb o _ _ hc e _=>k b o (λz=>hc (by simp [z])) e) (λb o _ _ hc e _=>⟨o.slots,k b o (λz=>hc (by simp [z])) e⟩) (λ_ _ _ _ n=>n)
  (λb o hc e=>⟨o,k b o (λz=>hc (by simp [z])) e⟩) (λ_ _ e=>e) (λ_ _ _ e=>e) (λb ps e=>⟨#[],by rw [e];simp⟩) (λm hm=>?_) (λb u e=>?_) I.bare
 ·have e:b=it:=by simpa using hb
  subst e
  exact⟨h1,hL,h2,h3⟩
 ·obtain⟨o,es,ep,ho,r⟩:=hm
  exact⟨o,es,ep,k _ o (Ne.symm hL) ho,r⟩
 ·refine (I.hok b u e).stay (λc v hc q=>k c v ?_ q) (λ_ q=>q) (λ_ _ q=>q) λ_ _ _ _ q _=>q
  rcases hc with z|z
  ·rw [z];exact nit b u e
  ·exact nit c _ z
theorem Inv.tok (I:Inv X pins Z H s) (t:Nat):Inv X pins Z H { s with toks:=t }:=I.un (h':=s.heap) (t':=t) Un.refl I.hok
theorem Inv.kept {t':Nat}(I:Inv X pins Z H s) (k:∀b u,s.heap.get? b=some u->h'.get? b=some u):Inv X pins Z H { s with heap:=h',toks:=t' }:=I.un (Un.kept k) (I.hok.kept k)
theorem Inv.laid {a:Addr}{o:HO}{t':Nat}(I:Inv X pins Z H s) (k:∀b u,s.heap.get? b=some u->h'.get? b=some u) (hp:s.heap.objs.size<=a) (new:ObjOk X.prog X.w (ay H a o) h' a o) :
  Inv X pins Z (ay H a o) { s with heap:=h',toks:=t' }:=I.un (Un.laid k hp (I.hok.fresh hp)) (I.hok.laid k hp new)
theorem Inv.write {x e:Addr}{o:HO}{t':Nat}(I:Inv X pins Z H s) (mu:p8 (H x)) (he:e=x∨H e=some (.own x)) (k:∀b u,b≠e->s.heap.get? b=some u->h'.get? b=some u) (heo:∃u,h'.get? e=some u)
  (new:ObjOk X.prog X.w (ay H x o) h' x o):Inv X pins Z (ay H x o) { s with heap:=h',toks:=t' }:=I.un (Un.write mu he k heo) (I.hok.write mu he k heo new)
theorem Inv.pins_of {pins':List (Addr×Obj)}(I:Inv X pins Z H s) (h:∀p∈pins',s.heap.get? p.1=some p.2/\H p.1=none/\p.1≠X.env.locals/\p.1∉X.fs/\∀v,p.2.data≠.cell v):Inv X pins' Z H s:=
 ⟨I.ok,I.os,I.bare,I.base,I.loc,I.cell,I.free,I.freeC,λp hp=>(List.mem_append.mp hp).elim (λz=>I.pin p (List.mem_append_left _ z)) (h p),I.hok,I.len⟩
theorem sX {N:List Str}(hN:N.Nodup) {i j:Nat}{x:Str}(a:N[i]?=some x) (b:N[j]?=some x):i=j:=by
 obtain⟨h1,e1⟩:=yal.mp a
 obtain⟨h2,e2⟩:=yal.mp b
 exact (List.getElem_inj hN).mp (e1.trans e2.symm)
theorem Bh {M:Model}{A:Around}{E:Value->Shared->Prop}{i:Nat}{x:Str}{v:V}{u:Value}{Q:Unit->Shared->Prop}(I:Inv X pins Z H s) (hN:X.N.Nodup) (hi:X.N[i]?=some x) (hx:k9 X.env.scope x) (r:RelV v u)
  (h:∀s',Inv X pins (Z.set i (some v)) H s'->(∃a,Heap.SameBut a s.heap s'.heap/\(a=X.env.locals∨X.env.cells.lookup x=some a))->Q () s') (hf:X.fn x=true∨X.env.scope.names.lookup x=some .local:=by first|exact .inl rfl|exact .inr rfl|assumption):wpAny M A (storeName X.env x u) Q E s:=by
 obtain⟨m,hn,hl⟩:=id I.loc
 have hcls:(X.env.scope.kind == .class||(X.env.scope.kind == .module&&X.env.locals != X.env.globals))=false:=by rw [I.ok.kind];rfl
 have hiZ:i<Z.length:=by rw [I.len];exact (yal.mp hi).1
 have cne:=I.cne
 have tracked:∀{a:Addr} {h':Heap},(∃o,s.heap.get? a=some o/\H a=none)->Heap.SameBut a s.heap h'->HOk X.prog X.w H h':=λ{a h'} ha hs b ob e=>by
  obtain⟨_,_,hfree⟩:=ha
  refine (I.hok b ob e).stay (λc w' hc q=>(hs.2 c ?_).trans q) (λ_ q=>q) (λ_ _ q=>q) λ_ _ _ _ q _=>q
  rintro rfl
  rcases hc with rfl|hc
  ·rw [hfree] at e;cases e
  ·rw [hfree] at hc;cases hc
 rcases hx with hk|hk
 ·refine wpAny_storeName_local hk hn (λh' hn' hs=>?_) hcls
  obtain⟨oL,_,_,hoL,_⟩:=id hn
  refine h _ ⟨I.ok,I.os,I.bare,⟨λb o e n hb hx=>?_,λb o e n hb hx=>?_,I.base.free,λb o e hx=>?_,I.base.tups,I.base.frzs,I.base.tbls⟩,⟨_,hn',λj y v' e1 e2 e3=>?_⟩,λy c e=>?_,I.free,I.freeC,λp hp=>?_,tracked ⟨oL,hoL,I.free⟩ hs,by simpa using I.len⟩ ⟨_,hs,.inl rfl⟩
  ·exact (hs.2 b (bR (cw (Qi e) I.ok.above))).trans (I.base.keep b o e n hb hx)
  ·obtain⟨sl,e1⟩:=I.base.slot b o e n hb hx
   exact⟨sl,(hs.2 b (bR (cw (Qi e) I.ok.above))).trans e1⟩
  ·obtain⟨o',e1⟩:=I.base.there b o e hx
   exact⟨o',(hs.2 b (bR (cw (Qi e) I.ok.above))).trans e1⟩
  ·by_cases hj:j=i
   ·subst hj
    rw [hi] at e1;cases e1
    rw [jW hiZ] at e2
    cases e2
    exact⟨u,r,.inl ⟨hk,by simp⟩⟩
   ·rw [bU (Ne.symm hj)] at e2
    obtain⟨u',r',q⟩:=hl j y v' e1 e2 e3
    refine⟨u',r',?_⟩
    rcases q with ⟨k,e⟩|⟨k,c,e,z⟩
    ·refine .inl ⟨k,?_⟩
     have:y≠x:=λe=>hj (sX hN e1 (e▸hi))
     simp [this,e]
    ·exact .inr ⟨k,c,e,z.sameBut hs (cne y c e)⟩
  ·obtain⟨w',z⟩:=I.cell y c e
   exact⟨w',z.sameBut hs (cne y c e)⟩
  ·obtain⟨e,n,ne,nf,d⟩:=I.pin p hp
   exact⟨(hs.2 p.1 ne).trans e,n,ne,nf,d⟩
 ·have hfn:X.fn x=true:=by
   rcases hf with z|z
   ·exact z
   ·rw [z] at hk;cases hk
  obtain⟨c,hc⟩:=I.ok.has x (.inl hk)
  obtain⟨w',z⟩:=I.cell x c hc
  refine wpAny_storeName_cell I.ok.kind hk hc z (λh' hc' hs=>?_)
  obtain⟨oc,hoc,hocd⟩:=id z
  refine h { s with heap:=h' } ⟨I.ok,I.os,I.bare,⟨λb o e n hb hx=>?_,λb o e n hb hx=>?_,I.base.free,λb o e hx=>?_,I.base.tups,I.base.frzs,I.base.tbls⟩,⟨m,hn.sameBut hs (Ne.symm (cne x c hc)),λj y v' e1 e2 e3=>?_⟩,λy c' e=>?_,I.free,I.freeC,λp hp=>?_,tracked ⟨oc,hoc,I.freeC x c hc⟩ hs,by simpa using I.len⟩ ⟨c,hs,.inr hc⟩
  ·exact (hs.2 b (bR (cw (Qi e) (I.ok.cab x c hfn hc)))).trans (I.base.keep b o e n hb hx)
  ·obtain⟨sl,e1⟩:=I.base.slot b o e n hb hx
   exact⟨sl,(hs.2 b (bR (cw (Qi e) (I.ok.cab x c hfn hc)))).trans e1⟩
  ·obtain⟨o',e1⟩:=I.base.there b o e hx
   exact⟨o',(hs.2 b (bR (cw (Qi e) (I.ok.cab x c hfn hc)))).trans e1⟩
  ·by_cases hj:j=i
   ·subst hj
    rw [hi] at e1;cases e1
    rw [jW hiZ] at e2
    cases e2
    exact⟨u,r,.inr ⟨.inl hk,c,hc,hc'⟩⟩
   ·rw [bU (Ne.symm hj)] at e2
    obtain⟨u',r',q⟩:=hl j y v' e1 e2 e3
    refine⟨u',r',?_⟩
    rcases q with q|⟨k,c',e,z'⟩
    ·exact .inl q
    ·refine .inr ⟨k,c',e,z'.sameBut hs ?_⟩
     rintro rfl
     exact hj (sX hN e1 (I.ok.inj _ _ _ e hc▸hi))
  ·by_cases dz:c'=c
   ·subst dz;exact⟨_,hc'⟩
   ·obtain⟨w2,z2⟩:=I.cell y c' e
    exact⟨w2,z2.sameBut hs dz⟩
  ·obtain⟨e,n,ne,nf,d⟩:=I.pin p hp
   refine⟨(hs.2 p.1 ?_).trans e,n,ne,nf,d⟩
   intro q
   rw [q,hoc] at e
   have q':oc=p.2:=fB e
   exact d w' (by rw [<-q'];exact hocd)
theorem AU {M:Model}{A:Around}{E:Value->Shared->Prop}{i:Nat}{x:Str}{v:V}{u:Value}{Q:Unit->Shared->Prop}(I:Inv X pins Z H s) (hN:X.N.Nodup) (hi:X.N[i]?=some x) (hx:k9 X.env.scope x) (r:RelV v u)
  (h:∀s',Inv X pins (Z.set i (some v)) H s'->Q () s') (hf:X.fn x=true∨X.env.scope.names.lookup x=some .local:=by first|exact .inl rfl|exact .inr rfl|assumption):wpAny M A (storeName X.env x u) Q E s:=
 Bh I hN hi hx r (λs' I' _=>h s' I') hf
theorem Inv.call' {s':Shared}{ch:List Addr}(I:Inv X pins Z H s) (ho:s'.os=s.os) (u:Un (eQ X.stack) ch H H' s.heap s'.heap) (hok:HOk X.prog X.w H' s'.heap) (hg:AllBare s'.gens)
  (hch:∀b∈ch,(b∈X.ex∨X.s₀.heap.objs.size<=b)/\b≠X.env.locals/\(∀x c,X.env.cells.lookup x=some c->c≠b)/\∀p∈X.pn++pins,p.1≠b):Inv X pins Z H' s':=by
 obtain⟨h',g',d',t',o'⟩:=s'
 have e:o'=s.os:=ho
 subst e
 exact I.call (g':=g') (t':=t') (d':=d') u hok hg hch
end
abbrev XK:=Value->Option Addr->Hp->Prop
abbrev St:=List (Option V)
abbrev VK:=V->Hp->Prop
abbrev TE:=St->Hp->VK->Prop
abbrev TT:=St->Hp->(Bool->Hp->Prop)->Prop
abbrev TA:=St->Hp->(List V->Hp->Prop)->Prop
structure Ends where
 nx:St->Hp->Prop
 rt:VK
 bk:St->Hp->Prop:=λ_ _=>False
 ct:St->Hp->Prop:=λ_ _=>False
abbrev TS:=Ends->St->Hp->Prop
def EP (X:Cx) (pins:List (Addr×Obj)) (Z:St) (Q:VK) (u:Value) (s':Shared):Prop:=∃v H',Inv X pins Z H' s'/\RelV v u/\Q v H'
def TP (X:Cx) (pins:List (Addr×Obj)) (Z:St) (Q:Bool->Hp->Prop) (b:Bool) (s':Shared):Prop:=∃H',Inv X pins Z H' s'/\Q b H'
def AP (X:Cx) (pins:List (Addr×Obj)) (Z:St) (Q:List V->Hp->Prop) (us:List Value) (s':Shared):Prop:=∃vs H',Inv X pins Z H' s'/\Vals vs us/\Q vs H'
def SP (X:Cx) (pins:List (Addr×Obj)) (D:Ends) (f:Flow) (s':Shared):Prop:=
 match f with
 | .next=>∃Z' H',Inv X pins Z' H' s'/\D.nx Z' H'
 | .brk=>∃Z' H',Inv X pins Z' H' s'/\D.bk Z' H'
 | .cont=>∃Z' H',Inv X pins Z' H' s'/\D.ct Z' H'
 | .ret u=>∃v Z' H',Inv X pins Z' H' s'/\RelV v u/\D.rt v H'
def PE (X:Cx) (e:Expr) (t:TE):Prop:=
 ∀(pins:List (Addr×Obj)) (s:Shared) (Z:St) (H:Hp) (Q:VK),Inv X pins Z H s->t Z H Q->wpAny (model X.prog X.w) X.A (eval e X.env) (EP X pins Z Q) X.xe s
def PT (X:Cx) (e:Expr) (t:TT):Prop:=
 ∀(pins:List (Addr×Obj)) (s:Shared) (Z:St) (H:Hp) (Q:Bool->Hp->Prop),Inv X pins Z H s->t Z H Q->wpAny (model X.prog X.w) X.A (isTrue e X.env (eval e X.env)) (TP X pins Z Q) X.xe s
def PW (X:Cx) (e:Expr) (t:TT):Prop:=
 ∀(whole:Sem Value) (pins:List (Addr×Obj)) (s:Shared) (Z:St) (H:Hp) (Q:Bool->Hp->Prop),Inv X pins Z H s->t Z H Q->wpAny (model X.prog X.w) X.A (isTrue e X.env whole) (TP X pins Z Q) X.xe s
theorem PW.pt {X:Cx}{e:Expr}{t:TT}(h:PW X e t):PT X e t:=h _
def PA (X:Cx) (es:List Expr) (t:TA):Prop:=
 ∀(pos:Pos) (pins:List (Addr×Obj)) (s:Shared) (Z:St) (H:Hp) (Q:List V->Hp->Prop),Inv X pins Z H s->t Z H Q->wpAny (model X.prog X.w) X.A (spliced (backTo pos (starEach es X.env))) (AP X pins Z Q) X.xe s
def PS (X:Cx) (st:Stmt) (t:TS):Prop:=
 ∀(pins:List (Addr×Obj)) (s:Shared) (Z:St) (H:Hp) (D:Ends),Inv X pins Z H s->t D Z H->wpAny (model X.prog X.w) X.A (exec st X.env) (SP X pins D) X.xe s
def PSs (X:Cx) (st:List Stmt) (t:TS):Prop:=
 ∀(pins:List (Addr×Obj)) (s:Shared) (Z:St) (H:Hp) (D:Ends),Inv X pins Z H s->t D Z H->wpAny (model X.prog X.w) X.A (execs st X.env) (SP X pins D) X.xe s
theorem aB {α:Type}{t:Sem α}{Q Q':α->Shared->Prop}{M:Model}{A:Around}{E:Value->Shared->Prop}{s:Shared}(h:wpAny M A t Q E s) (hQ:∀a s,Q a s->Q' a s):wpAny M A t Q' E s:=Qe h hQ λ_ _ x=>x
end L2
namespace L2
open PySem PySem.Spec PyProof.Rows
section
variable {X:Cx}
theorem bin {a b:Expr}{ta tb:TE}(ha:PE X a ta) (hb:PE X b tb) {pins:List (Addr×Obj)}{s:Shared}{Z:St}{H:Hp}{R:V->V->Hp->Prop}(I:Inv X pins Z H s) (h:ta Z H λx H1=>tb Z H1 λy H2=>R x y H2)
  {α:Type} {Q:α->Shared->Prop} {f:Value->Value->Sem α}
  (hf:∀v u s2 x y H2,Inv X pins Z H2 s2->RelV x v->RelV y u->R x y H2->wpAny (model X.prog X.w) X.A (f v u) Q X.xe s2) :
  wpAny (model X.prog X.w) X.A (eval a X.env) (λv s₁=>wpAny (model X.prog X.w) X.A (eval b X.env) (λu s₂=>wpAny (model X.prog X.w) X.A (f v u) Q X.xe s₂) X.xe s₁) X.xe s:=by
 refine aB (ha pins s Z H _ I h) λv s1 ⟨x,H1,I1,r1,q1⟩=>?_
 refine aB (hb pins s1 Z H1 _ I1 q1) λu s2 ⟨y,H2,I2,r2,q2⟩=>?_
 exact hf v u s2 x y H2 I2 r1 r2 q2
noncomputable def ou (i:Nat):TE:=fun Z H Q=>∃v,Z[i]?=some (some v)/\Q v H
noncomputable def tC (v:V):TE:=λ_ H Q=>Q v H
theorem gT {i:Nat}{x:Str}{pos:Pos}(hN:X.N[i]?=some x) (hv:jI X.env.scope x) (hd:(x == ("__debug__":Str))=false:=by decide) (hcd:(x == ("__classdict__":Str))=false:=by decide):PE X (.Name x pos) (ou i):=by
 intro pins s Z H Q I h
 obtain⟨v,e,h⟩:=h
 obtain⟨m,hn,hl⟩:=I.loc
 obtain⟨u,r,l⟩:=hl i x v hN e hv
 have fin:EP X pins Z Q u s:=⟨v,H,I,r,h⟩
 rcases l with ⟨hk,hm⟩|⟨hk,c,hc,hcell⟩
 ·exact wpAny_Name (wpAny_loadName_local I.ok.kind hk hn hm fin) hd
 ·rcases hk with hk|hk
  ·exact wpAny_Name (wpAny_loadName_cell I.ok.kind hk hc hcell fin) hd
  ·exact wpAny_Name (wpAny_loadName_free I.ok.kind hk hc hcell fin hcd) hd
theorem qO8 {i j pos}:PE X (.Constant (.int i) j pos) (tC (.int i)):=λ_ _ _ H _ I h=>wpAny_Constant_int ⟨.int i,H,I.tok _,⟨_,rfl⟩,h⟩
theorem qRX {b j pos}:PE X (.Constant (.bool b) j pos) (tC (.bl b)):=λ_ _ _ H _ I h=>Constant_bool ⟨.bl b,H,I,rfl,h⟩
theorem qO5 {j pos}:PE X (.Constant .none j pos) (tC .non):=λ_ _ _ H _ I h=>Constant_none ⟨.non,H,I,rfl,h⟩
theorem qO2 {x j pos}:PE X (.Constant (.str x) j pos) (tC (.str x)):=λ_ _ _ H _ I h=>Calls.Constant_str ⟨.str x,H,I.tok _,⟨_,rfl⟩,h⟩
def Gl (X:Cx) (x:Str):Prop:=X.env.kindOf x=some .globalImplicit
theorem kL {E:Value->Shared->Prop}{pins:List (Addr×Obj)}{s:Shared}{Z:St}{H:Hp}{x:Str}{u:Value}{pos:Pos}{Q:Value->Shared->Prop}(I:Inv X pins Z H s) (hg:Gl X x) (hm:X.mg x=some u) (h:Q u s)
  (hd:(x == ("__debug__":Str))=false:=by decide):wpAny (model X.prog X.w) X.A (eval (.Name x pos) X.env) Q E s:=
 Calls.Name_function_global I.ok.kind hg (Calls.loadGlobal_global (by rw [I.ok.glob];exact I.mod.glob.keeps I.bk) hm h) hd
theorem gz {E:Value->Shared->Prop}{pins:List (Addr×Obj)}{s:Shared}{Z:St}{H:Hp}{x:Str}{u:Value}{pos:Pos}{Q:Value->Shared->Prop}(I:Inv X pins Z H s) (hg:Gl X x) (hm:X.mg x=none) (hv:Qo x=some u) (h:Q u s)
  (hn:x≠"__name__":=by decide) (hd:(x == ("__debug__":Str))=false:=by decide):wpAny (model X.prog X.w) X.A (eval (.Name x pos) X.env) Q E s:=by
 obtain⟨mb,h1,h2⟩:=I.mod.blt
 exact Calls.Name_function_global I.ok.kind hg (Calls.loadGlobal_builtin (by rw [I.ok.glob];exact I.mod.glob.keeps I.bk) hm (by rw [I.ok.blt];exact h1.keeps I.bk) ((h2 x hn).trans hv) h) hd
theorem zQ {x:Str}{v:V}{u:Value}{pos:Pos}(hg:Gl X x) (hm:X.mg x=some u) (r:RelV v u) (hd:(x == ("__debug__":Str))=false:=by decide):PE X (.Name x pos) (tC v):=
 λ_ _ _ H _ I h=>kL I hg hm ⟨v,H,I,r,h⟩ hd
theorem qMR {x:Str}{v:V}{u:Value}{pos:Pos}(hg:Gl X x) (hm:X.mg x=none) (hv:Qo x=some u) (r:RelV v u) (hn:x≠"__name__":=by decide) (hd:(x == ("__debug__":Str))=false:=by decide):PE X (.Name x pos) (tC v):=
 λ_ _ _ H _ I h=>gz I hg hm hv ⟨v,H,I,r,h⟩ hn hd
variable {a b:Expr}{ta tb:TE}{pos:Pos}
noncomputable def tB (t:TE):TT:=fun Z H Q=>t Z H λx H1=>∃c,x=.bl c/\Q c H1
theorem qOQ {e:Expr}{t:TE}(h:PE X e t) (he:∀whole,isTrue e X.env whole=(do let v <-whole;standAt e.pos;holding [v] (truthy v)):=by intro _;rfl):PT X e (tB t):=by
 intro pins s Z H Q I hw
 refine isTrue_plain (aB (h pins s Z H _ I hw) λv s1 ⟨x,H1,I1,r1,q1⟩=>?_) (he _)
 obtain⟨d,rfl,q⟩:=q1
 cases r1
 exact wpAny_truthy_bool ⟨H1,I1,q⟩
variable {tA tB':TT}{rest:List Expr}
noncomputable def qTM (t u:TT):TT:=fun Z H Q=>t Z H λc H1=>if c=true then u Z H1 Q else Q false H1
noncomputable def tOr (t u:TT):TT:=fun Z H Q=>t Z H λc H1=>if c=true then Q true H1 else u Z H1 Q
noncomputable def qTF (t:TT):TT:=fun Z H Q=>t Z H λc H1=>Q (!c) H1
theorem qMJ (ha:PT X a tA):PW X (.BoolOp .And [a] pos) tA:=by
 intro wh pins s Z H Q I h
 refine isTrue_and (aB (ha pins s Z H Q I h) λc s1 e=>?_)
 cases c with
 | true=>exact isTrue_and_nil e
 | false=>exact e
theorem qOO (ha:PT X a tA):PW X (.BoolOp .Or [a] pos) tA:=by
 intro wh pins s Z H Q I h
 refine isTrue_or (aB (ha pins s Z H Q I h) λc s1 e=>?_)
 cases c with
 | false=>exact isTrue_or_nil e
 | true=>exact e
theorem qOP (ha:PT X a tA) (hb:PW X (.BoolOp .And (b::rest) pos) tB'):PW X (.BoolOp .And (a::b::rest) pos) (qTM tA tB'):=by
 intro wh pins s Z H Q I h
 refine isTrue_and (aB (ha pins s Z H _ I h) λc s1 ⟨H1,I1,q1⟩=>?_)
 cases c with
 | true=>exact hb wh pins s1 Z H1 Q I1 q1
 | false=>exact⟨H1,I1,q1⟩
theorem qRN (ha:PT X a tA) (hb:PW X (.BoolOp .Or (b::rest) pos) tB'):PW X (.BoolOp .Or (a::b::rest) pos) (tOr tA tB'):=by
 intro wh pins s Z H Q I h
 refine isTrue_or (aB (ha pins s Z H _ I h) λc s1 ⟨H1,I1,q1⟩=>?_)
 cases c with
 | true=>exact⟨H1,I1,q1⟩
 | false=>exact hb wh pins s1 Z H1 Q I1 q1
theorem qOR (ha:PT X a tA):PT X (.UnaryOp .Not a pos) (qTF tA):=by
 intro pins s Z H Q I h
 exact isTrue_not (ha pins s Z H (λc H1=>Q (!c) H1) I h)
noncomputable def qRB (ta tb:TE):TE:=fun Z H Q=>ta Z H λx H1=>∃c,x=.bl c/\if c=true then tb Z H1 Q else Q (.bl false) H1
noncomputable def qTE (ta tb:TE):TE:=fun Z H Q=>ta Z H λx H1=>∃c,x=.bl c/\if c=true then Q (.bl true) H1 else tb Z H1 Q
noncomputable def qRv (ta:TE):TE:=fun Z H Q=>ta Z H λx H1=>∃c,x=.bl c/\Q (.bl (!c)) H1
theorem qO3 {op}{t:TE}(h:PE X a t):PE X (.BoolOp op [a] pos) t:=λpins s Z H Q I hw=>BoolOp_one (h pins s Z H Q I hw)
theorem qPd (ha:PE X a ta) (hb:PE X (.BoolOp .And (b::rest) pos) tb):PE X (.BoolOp .And (a::b::rest) pos) (qRB ta tb):=by
 intro pins s Z H Q I h
 refine BoolOp_and (aB (ha pins s Z H _ I h) λv s1 ⟨x,H1,I1,r1,q1⟩=>?_)
 obtain⟨c,rfl,q1⟩:=q1
 cases r1
 refine wpAny_truthy_bool ?_
 cases c with
 | true=>exact hb pins s1 Z H1 Q I1 q1
 | false=>exact⟨.bl false,H1,I1,rfl,q1⟩
theorem qRU (ha:PE X a ta) (hb:PE X (.BoolOp .Or (b::rest) pos) tb):PE X (.BoolOp .Or (a::b::rest) pos) (qTE ta tb):=by
 intro pins s Z H Q I h
 refine BoolOp_or (aB (ha pins s Z H _ I h) λv s1 ⟨x,H1,I1,r1,q1⟩=>?_)
 obtain⟨c,rfl,q1⟩:=q1
 cases r1
 refine wpAny_truthy_bool ?_
 cases c with
 | false=>exact hb pins s1 Z H1 Q I1 q1
 | true=>exact⟨.bl true,H1,I1,rfl,q1⟩
theorem qO4 (ha:PE X a ta):PE X (.UnaryOp .Not a pos) (qRv ta):=by
 intro pins s Z H Q I h
 refine UnaryOp_ (aB (ha pins s Z H _ I h) λv s1 ⟨x,H1,I1,r1,q1⟩=>?_)
 obtain⟨c,rfl,q1⟩:=q1
 cases r1
 exact not_of (wpAny_truthy_bool ⟨.bl (!c),H1,I1,rfl,q1⟩)
noncomputable def tIf (t:TT) (ta tb:TE):TE:=fun Z H Q=>t Z H λc H1=>if c=true then ta Z H1 Q else tb Z H1 Q
theorem qJR {c:Expr}(hc:PT X c tA) (ha:PE X a ta) (hb:PE X b tb):PE X (.IfExp c a b pos) (tIf tA ta tb):=by
 intro pins s Z H Q I h
 refine wpAny_IfExp (aB (hc pins s Z H _ I h) λd s1 ⟨H1,I1,q1⟩=>?_)
 cases d with
 | true=>exact ha pins s1 Z H1 Q I1 q1
 | false=>exact hb pins s1 Z H1 Q I1 q1
end
end L2
namespace L2
open PySem PySem.Spec PyProof.Rows
def SqL (K:Qb) (H:Hp) (a:Addr) (xs:List V):Prop:=
 Rd H a (.lst xs) ∨
  ∃(o:Obj) (its:Array Value) (n:Nat),K.lookup a=some o/\o.cls=.type "list"/\o.dict=none/\o.data=.seq its n/\its.size<=sizeLine/\Vals xs its.toList
def SqT (K:Qb) (H:Hp) (a:Addr) (xs:List V):Prop:=
 Rd H a (.tup xs) ∨
  ∃(o:Obj) (its:Array Value) (n:Nat),K.lookup a=some o/\o.cls=.type "tuple"/\o.data=.seq its n/\its.size<=sizeLine/\Vals xs its.toList
def qUn:Value->Option V
 | .none=>some .non
 | .bool b=>some (.bl b)
 | .int i _=>some (.int i)
 | .str x _=>some (.str x)
 | .bytes b _=>some (.byt b)
 | .float b _=>some (.flt b)
 | .ref a=>some (.ref a)
 | .type n=>some (.ty n)
 | _=>none
theorem RelV.abs {x:V}{u:Value}(r:RelV x u):qUn u=some x:=by
 cases x with
 | non=>cases r;rfl
 | bl _=>cases r;rfl
 | int _=>obtain⟨t,rfl⟩:=r;rfl
 | str _=>obtain⟨t,rfl⟩:=r;rfl
 | byt _=>obtain⟨t,rfl⟩:=r;rfl
 | flt _=>obtain⟨t,rfl⟩:=r;rfl
 | ref _=>cases r;rfl
 | ty _=>cases r;rfl
theorem RelV.inj {x y:V}{u:Value}(r:RelV x u) (q:RelV y u):x=y:=fB (r.abs.symm.trans q.abs)
theorem Vals.inj:∀{xs ys:List V}{us:List Value},Vals xs us->Vals ys us->xs=ys
 | _,_,_,.nil,.nil=>rfl
 | _,_,_,.cons r t,.cons r' t'=>by rw [r.inj r',Vals.inj t t']
section
variable {X:Cx}{pins:List (Addr×Obj)}{Z:St}{H:Hp}{s:Shared}{a:Addr}{xs ys:List V}
theorem SqL.of {K:Qb}(h:H a=some (.lst xs)):SqL K H a xs:=.inl (.inl h)
theorem SqT.of {K:Qb}(h:H a=some (.tup xs)):SqT K H a xs:=.inl (.inl h)
theorem Inv.list (I:Inv X pins Z H s) (h:SqL X.K H a xs):∃its:List Value,Vals xs its/\PlainL s.heap a its.toArray/\xs.length<=sizeLine:=by
 rcases h with h|⟨o,its,n,hk,hc,hd,hs,hz,r⟩
 ·obtain⟨z,its,n,r,e⟩:=h.ok I.hok
  exact⟨its,r,⟨_,n,e,rfl,rfl,rfl⟩,z⟩
 ·refine⟨its.toList,r,⟨o,n,I.kIn a o hk,hc,hd,by simpa using hs⟩,?_⟩
  have e:=r.length
  simp only [qz] at e
  omega
theorem Inv.tuple (I:Inv X pins Z H s) (h:SqT X.K H a xs):∃its:List Value,Vals xs its/\IsTup s.heap a its.toArray/\xs.length<=sizeLine:=by
 rcases h with h|⟨o,its,n,hk,hc,hs,hz,r⟩
 ·obtain⟨z,its,r,p⟩:=h.ok I.hok
  exact⟨its,r,p,z⟩
 ·refine⟨its.toList,r,⟨o,I.kIn a o hk,hc,n,by simpa using hs⟩,?_⟩
  have e:=r.length
  simp only [qz] at e
  omega
theorem Inv.list_inj (I:Inv X pins Z H s) (h:SqL X.K H a xs) (h':SqL X.K H a ys):xs=ys:=by
 obtain⟨its,r,⟨o,n,e,_,_,d⟩,_⟩:=I.list h
 obtain⟨its',r',⟨o',n',e',_,_,d'⟩,_⟩:=I.list h'
 rw [e] at e';cases e'
 rw [d] at d'
 injection d' with d1 _
 have:its=its':=by simpa using congrArg Array.toList d1
 subst this
 exact r.inj r'
theorem Inv.tuple_inj (I:Inv X pins Z H s) (h:SqT X.K H a xs) (h':SqT X.K H a ys):xs=ys:=by
 obtain⟨its,r,⟨o,e,_,n,d⟩,_⟩:=I.tuple h
 obtain⟨its',r',⟨o',e',_,n',d'⟩,_⟩:=I.tuple h'
 rw [e] at e';cases e'
 rw [d] at d'
 injection d' with d1 _
 have:its=its':=by simpa using congrArg Array.toList d1
 subst this
 exact r.inj r'
end
noncomputable abbrev Cx.wish (X:Cx) (E:Value->Shared->Prop):Cx:={ X with xe:=E }
abbrev Cx.nox (X:Cx):Cx:=X.wish λ_ _=>False
theorem Cx.Ok.wish {X:Cx}(ok:X.Ok) (E:Value->Shared->Prop):(X.wish E).Ok:=
 ⟨ok.mod,ok.kind,ok.glob,ok.blt,ok.above,ok.inj,ok.has,ok.cab,ok.hd,ok.frames,ok.stk,ok.exf,ok.bs,ok.bsz,ok.noex,ok.exfs,ok.funs,ok.frf⟩
theorem Cx.Ok.unwish {X:Cx}{E:Value->Shared->Prop}(ok:(X.wish E).Ok):X.Ok:=
 ⟨ok.mod,ok.kind,ok.glob,ok.blt,ok.above,ok.inj,ok.has,ok.cab,ok.hd,ok.frames,ok.stk,ok.exf,ok.bs,ok.bsz,ok.noex,ok.exfs,ok.funs,ok.frf⟩
section
variable {X:Cx}{pins:List (Addr×Obj)}{Z:St}{H:Hp}{s:Shared}{E:Value->Shared->Prop}
theorem Inv.wish (I:Inv X pins Z H s) (E:Value->Shared->Prop):Inv (X.wish E) pins Z H s:=⟨I.ok.wish E,I.os,I.bare,I.base,I.loc,I.cell,I.free,I.freeC,I.pin,I.hok,I.len⟩
theorem Inv.unwish (I:Inv (X.wish E) pins Z H s):Inv X pins Z H s:=⟨I.ok.unwish,I.os,I.bare,I.base,I.loc,I.cell,I.free,I.freeC,I.pin,I.hok,I.len⟩
theorem SP.unwish {D:Ends}{f:Flow}{s':Shared}(h:SP (X.wish E) pins D f s'):SP X pins D f s':=by
 cases f with
 | next=>obtain⟨Z',H',I,q⟩:=h;exact⟨Z',H',I.unwish,q⟩
 | brk=>obtain⟨Z',H',I,q⟩:=h;exact⟨Z',H',I.unwish,q⟩
 | cont=>obtain⟨Z',H',I,q⟩:=h;exact⟨Z',H',I.unwish,q⟩
 | ret u=>obtain⟨v,Z',H',I,r,q⟩:=h;exact⟨v,Z',H',I.unwish,r,q⟩
theorem PSs.nox {st:List Stmt}{t:TS}(h:PSs X.nox st t):PSs X st t:=λpins s Z H D I hw =>
 Qe (h pins s Z H D (I.wish _) hw) (λ_ _ q=>q.unwish) λ_ _ z=>False.elim z
end
section
variable {X:Cx}{st:Stmt}{rest:List Stmt}{t u:TS}{e:Expr}{te:TE}{pos:Pos}
noncomputable def qRx:TS:=λD Z H=>D.nx Z H
noncomputable def qTC (t u:TS):TS:=λD Z H=>t { D with nx:=u D } Z H
theorem zV:PSs X [] qRx:=λ_ _ Z H _ I h=>wpAny_execs_nil ⟨Z,H,I,h⟩
theorem AJ (h1:PS X st t) (h2:PSs X rest u):PSs X (st::rest) (qTC t u):=by
 intro pins s Z H D I h
 refine wpAny_execs_cons (aB (h1 pins s Z H { D with nx:=u D } I h) λf s1 q=>?_)
 cases f with
 | next =>
  obtain⟨Z',H',I',q⟩:=q
  exact h2 pins s1 Z' H' D I' q
 | ret v=>exact q
 | brk=>exact q
 | cont=>exact q
theorem qMK (h1:PS X st t):PSs X [st] t:=by
 intro pins s Z H D I h
 refine wpAny_execs_cons (aB (h1 pins s Z H D I h) λf s1 q=>?_)
 cases f with
 | next=>exact wpAny_execs_nil q
 | ret v=>exact q
 | brk=>exact q
 | cont=>exact q
theorem Inv.quiet {pins:List (Addr×Obj)}{Z:St}{H:Hp}{s:Shared}(I:Inv X pins Z H s):interactive X.env=false:=by simp [interactive,I.ok.kind]
noncomputable def qRy (te:TE):TS:=λD Z H=>te Z H λ_ H1=>D.nx Z H1
theorem zU (he:PE X e te) (hs:swapsWith e none pos.line X.env=pure false:=by rfl):PS X (.Expr e pos) (qRy te):=by
 intro pins s Z H D I h
 exact wpAny_Expr_any (aB (he pins s Z H _ I h) λv s1 ⟨x,H1,I1,r1,q1⟩=>⟨Z,H1,I1,q1⟩) I.quiet hs
noncomputable def qTD (te:TE):TS:=λD Z H=>te Z H D.rt
theorem rV (he:PE X e te):PS X (.Return (some e) pos) (qTD te):=by
 intro pins s Z H D I h
 exact wpAny_Return_some (aB (he pins s Z H _ I h) λv s1 ⟨x,H1,I1,r1,q1⟩=>⟨x,Z,H1,I1,r1,q1⟩)
def qTH (c:TT) (t u:TS):TS:=λD Z H=>c Z H λb H1=>if b=true then t D Z H1 else u D Z H1
theorem qRO {c:Expr}{a b:List Stmt}{tc:TT}(hc:PT X c tc) (ha:PSs X a t) (hb:PSs X b u):PS X (.If c a b pos) (qTH tc t u):=by
 intro pins s Z H D I h
 refine wpAny_If (aB (hc pins s Z H _ I h) λd s1 ⟨H1,I1,q1⟩=>?_)
 cases d with
 | true=>exact ha pins s1 Z H1 D I1 q1
 | false=>exact hb pins s1 Z H1 D I1 q1
end
abbrev TG:=V->St->Hp->(St->Hp->Prop)->Prop
abbrev iT:=List V->St->Hp->(St->Hp->Prop)->Prop
def PG (X:Cx) (target:Expr) (t:TG):Prop:=
 ∀(pins:List (Addr×Obj)) (s:Shared) (Z:St) (H:Hp) (v:V) (u:Value) (Q:St->Hp->Prop),Inv X pins Z H s->RelV v u->t v Z H Q ->
   wpAny (model X.prog X.w) X.A (assign target X.env u) (λ_ s'=>∃Z' H',Inv X pins Z' H' s'/\Q Z' H') X.xe s
def mX (X:Cx) (ts:List Expr) (t:iT):Prop:=
 ∀(pins:List (Addr×Obj)) (s:Shared) (Z:St) (H:Hp) (vs:List V) (us:List Value) (Q:St->Hp->Prop),Inv X pins Z H s->Vals vs us->t vs Z H Q ->
   wpAny (model X.prog X.w) X.A (assignInOrder ((assignEach ts X.env).map (·.2)) us) (λ_ s'=>∃Z' H',Inv X pins Z' H' s'/\Q Z' H') X.xe s
section
variable {X:Cx}{pos:Pos}
noncomputable def jf (i:Nat):TG:=λv Z H Q=>Q (Z.set i (some v)) H
theorem pD {i:Nat}{x:Str}(hN:X.N.Nodup) (hi:X.N[i]?=some x) (hx:k9 X.env.scope x) (hf:X.fn x=true∨X.env.scope.names.lookup x=some .local:=by first|exact .inl rfl|exact .inr rfl|assumption):PG X (.Name x pos) (jf i):=by
 intro pins s Z H v u Q I r h
 exact wpAny_assign_Name (AU I hN hi hx r (λs' I'=>⟨_,H,I',h⟩) hf)
noncomputable def rh:iT:=λvs Z H Q=>vs=[]/\Q Z H
noncomputable def oJ (t:TG) (u:iT):iT:=λvs Z H Q=>∃v r,vs=v::r/\t v Z H fun Z' H'=>u r Z' H' Q
theorem zR:mX X [] rh:=by
 intro pins s Z H vs us Q I r h
 obtain⟨e,h⟩:=h
 subst e
 cases r
 exact assignInOrder_nil ⟨Z,H,I,h⟩
theorem sZ {e:Expr}{es:List Expr}{t:TG}{u:iT}(h1:PG X e t) (h2:mX X es u)
  (hs:(assignEach (e::es) X.env).map (·.2)=assign e X.env::(assignEach es X.env).map (·.2):=by rfl):mX X (e::es) (oJ t u):=by
 intro pins s Z H vs us Q I r h
 obtain⟨v,vr,e1,h⟩:=h
 subst e1
 cases r with
 | cons r rr =>
  rw [hs]
  refine assignInOrder_cons (aB (h1 pins s Z H _ _ _ I r h) λ_ s1 ⟨Z1,H1,I1,q1⟩=>?_)
  exact h2 pins s1 Z1 H1 _ _ Q I1 rr q1
noncomputable def ri (K:Qb) (n:Nat) (t:iT):TG:=λv Z H Q=>∃a xs,v=.ref a/\SqT K H a xs/\xs.length=n/\t xs Z H Q
theorem pd {es:List Expr}{k:Nat}{t:iT}{n:Nat}(hc:X.calm=true) (h:mX X es t)
  (hn:(assignEach es X.env).length=n:=by rfl) (hst:(assignEach es X.env).findIdx? (·.1)=none:=by rfl):PG X (.Tuple es k pos) (ri X.K n t):=by
 intro pins s Z H v u Q I r hw
 obtain⟨a,xs,e1,hq,hl,hw⟩:=hw
 subst e1
 cases r
 obtain⟨its,rv,ht,hz⟩:=I.tuple hq
 refine assign_Tuple_tuple (I.ok.hd hc) ht (by simp [hn,<-hl,rv.length]) hst λh' hx=>?_
 have I1:Inv X pins Z H { s with heap:=h' }:=I.kept (t':=s.toks) λb o e=>hx b o (bR (Qi e)) e
 exact h pins _ Z H xs _ Q I1 (by simpa using rv) hw
noncomputable def xk (te:TE) (g:TG):TS:=λD Z H=>te Z H λx H1=>g x Z H1 D.nx
theorem qOW {tg e:Expr}{te:TE}{g:TG}(he:PE X e te) (hg:PG X tg g) (hs:swapsWithSole [tg] e pos.line X.env=pure false:=by rfl) (hw:swappedStores [tg] e X.env=pure none:=by rfl)
  (h1:(assignEach [tg] X.env).map (·.2)=[assign tg X.env]:=by rfl):PS X (.Assign [tg] e pos) (xk te g):=by
 intro pins s Z H D I h
 refine wpAny_Assign_stores (aB (he pins s Z H _ I h) λv s1 ⟨x,H1,I1,r1,q1⟩=>?_) hs hw
 rw [h1]
 exact aB (hg pins s1 Z H1 x v _ I1 r1 q1) λ_ s2 q=>q
theorem qOT {i:Nat}{x:Str}{e:Expr}{te:TE}{pos':Pos}(hN:X.N.Nodup) (hi:X.N[i]?=some x) (hx:k9 X.env.scope x) (he:PE X e te) (hs:swapsWith e (some (.Name x pos')) pos.line X.env=pure false:=by rfl) (hf:X.fn x=true∨X.env.scope.names.lookup x=some .local:=by first|exact .inl rfl|exact .inr rfl|assumption) :
  PS X (.Assign [.Name x pos'] e pos) (xk te (jf i)):=by
 intro pins s Z H D I h
 refine wpAny_Assign_Name (aB (he pins s Z H _ I h) λv s1 ⟨y,H1,I1,r1,q1⟩=>?_) hs
 exact AU I1 hN hi hx r1 (λs2 I2=>⟨_,H1,I2,q1⟩) hf
end
section
variable {X:Cx}{pos:Pos}
def qOm (c:TT) (tb:TS):TS:=λD Z H=>∃W:Nat->St->Hp->Prop,(∃m,W m Z H)/\∀m Z H,W m Z H ->
 c Z H λb H1=>if b=true then ∃N:St->Hp->Prop,(∀Z' H',N Z' H'->∃m',m'<m/\W m' Z' H')/\tb { D with nx:=N,ct:=N,bk:=D.nx } Z H1 else D.nx Z H1
theorem qJK {c:Expr}{body:List Stmt}{tc:TT}{tb:TS}(hp:PassesOwn (model X.prog X.w) X.A X.env X.xe) (hc:PT X c tc) (hb:PSs X body tb):PS X (.While c body [] pos) (qOm tc tb):=by
 intro pins s Z H D I h
 obtain⟨W,⟨m0,w0⟩,turn⟩:=h
 refine wpAny_While (codeAny_whileLoop (λn s'=>∃Z' H',Inv X pins Z' H' s'/\W n Z' H') ?_ m0 ⟨Z,H,I,w0⟩)
 rintro n s1 ⟨Z1,H1,I1,w1⟩
 refine wpAny_passesOwn hp (aB (hc pins s1 Z1 H1 _ I1 (turn n Z1 H1 w1)) λb s2 ⟨H2,I2,q2⟩=>?_)
 cases b with
 | true =>
  obtain⟨N,hN,q2⟩:=q2
  rw [Ql rfl]
  refine wpAny_passesOwn hp (aB (hb pins s2 Z1 H2 _ I2 q2) λf s3 q3=>?_)
  cases f with
  | next =>
   obtain⟨Z3,H3,I3,n3⟩:=q3
   obtain⟨m',hm,w3⟩:=hN Z3 H3 n3
   exact⟨m',hm,Z3,H3,I3,w3⟩
  | cont =>
   obtain⟨Z3,H3,I3,n3⟩:=q3
   obtain⟨m',hm,w3⟩:=hN Z3 H3 n3
   exact⟨m',hm,Z3,H3,I3,w3⟩
  | brk=>exact q3
  | ret v=>exact q3
 | false =>
  rw [Qm fg]
  exact wpAny_execs_nil ⟨Z1,H2,I2,q2⟩
end
structure It where
 go:Nat->Hp->Prop
 yld:Nat->Hp->V->Hp->Prop
 stop:Nat->Hp->Prop
def dX (X:Cx) (pins:List (Addr×Obj)) (H:Hp) (b:Addr):Prop:=
 H b=none/\b≠X.env.locals/\b∉X.fs/\(b∈X.ex∨X.s₀.heap.objs.size<=b)/\(∀x c,X.env.cells.lookup x=some c->c≠b)/\∀p∈X.pn++pins,p.1≠b
theorem Inv.fpOk {X:Cx}{pins:List (Addr×Obj)}{Z:St}{H H':Hp}{s:Shared}{b:Addr}(I:Inv X pins Z H s) (hb:s.heap.objs.size<=b) (hn:H' b=none):dX X pins H' b:=by
 refine⟨hn,jP (cw I.lt hb),I.nofs hb,.inr (dM I.sz hb),λx c e z=>?_,λp hp z=>?_⟩
 ·obtain⟨v,q⟩:=I.cell x c e
  exact Qn (cw q.lt (by rw [z];exact hb)) (fh _)
 ·exact Qn (cw (Qi (I.pin p hp).1) (by rw [z];exact hb)) (fh _)
structure Turn (P:Program) (w:World) (K:Qb) (tg:Expr) (J:It) (fp:List Addr) (it:Addr) (tn:Nat->Heap->Prop):Prop where
 mem:it∈fp
 obj:∀i h,tn i h->∀b∈fp,∃o,h.get? b=some o/\∀v,o.data≠.cell v
 keep:∀i h h',tn i h->(∀b∈fp,∀o,h.get? b=some o->h'.get? b=some o)->tn i h'
 item:∀(X:Cx),X.prog=P->X.w=w->X.K=K->X.calm=true->∀(i:Nat) (pins:List (Addr×Obj)) (s:Shared) (Z:St) (H:Hp) (E:Value->Shared->Prop),Inv X pins Z H s->(∀b∈fp,dX X pins H b)->tn i s.heap->J.go i H ->
  wpAny (model P w) X.A (pyNext (.ref it)) (λr s1=>∃u,r=some u /\
   wpAny (model P w) X.A (letOwnedTupleGo tg (.ref it) u) (λ_ s2=>∃x H',Inv X pins Z H' s2/\RelV x u/\J.yld i H x H'/\tn (i+1) s2.heap/\∀b∈fp,H' b=none) E s1) E s
 done:∀(X:Cx),X.prog=P->X.w=w->X.K=K->X.calm=true->∀(i:Nat) (pins:List (Addr×Obj)) (s:Shared) (Z:St) (H:Hp) (E:Value->Shared->Prop),Inv X pins Z H s->(∀b∈fp,dX X pins H b)->tn i s.heap->J.stop i H ->
  wpAny (model P w) X.A (pyNext (.ref it)) (λr s1=>r=none/\Inv X pins Z H s1) E s
 self:∀(A:Around) (i:Nat) (s:Shared) (Q:Value->Shared->Prop) (E:Value->Shared->Prop),tn i s.heap->Q (.ref it) s->wpAny (model P w) A (pyIter (.ref it)) Q E s
abbrev TI:=St->Hp->(It->Hp->Prop)->Prop
def mW (X:Cx) (pins:List (Addr×Obj)) (Z:St) (tg:Expr) (R:It->Hp->Prop) (itv:Value) (s2:Shared):Prop:=
 ∃(it:Addr) (fp:List Addr) (tn:Nat->Heap->Prop) (J:It) (H':Hp),itv=.ref it/\Inv X pins Z H' s2/\Turn X.prog X.w X.K tg J fp it tn/\tn 0 s2.heap/\(∀b∈fp,dX X pins H' b)/\R J H'
def PI (X:Cx) (tg iter:Expr) (wi:TI):Prop:=
 ∀(pins:List (Addr×Obj)) (s:Shared) (Z:St) (H:Hp) (R:It->Hp->Prop),Inv X pins Z H s->wi Z H R ->
   wpAny (model X.prog X.w) X.A (eval iter X.env) (λv s1=>wpAny (model X.prog X.w) X.A (pyIter v) (mW X pins Z tg R) X.xe s1) X.xe s
theorem lM {M:Model}{A:Around}{E:Value->Shared->Prop}{s:Shared}{tg:Expr}{it:Addr}{u:Value}{o:Obj}{n:String}{vs:Array Value}{Q:Unit->Shared->Prop}(ho:s.heap.get? it=some o) (hc:o.cls=.type n) (hd:o.data=.fields vs)
  (hn:["enumerate","zip","dict_itemiterator","dict_reverseitemiterator","odict_iterator","itertools.zip_longest","itertools.pairwise"].contains n=false) (hQ:Q () s):wpAny M A (letOwnedTupleGo tg (.ref it) u) Q E s:=by
 unfold letOwnedTupleGo
 cases tg<;>first
  | exact Qd hQ
  | (cases u<;>first
    | exact Qd hQ
    | (refine Qc (wpAny_load ho ?_)
       rw [hc,hd]
       show wpAny M A (if (["enumerate","zip","dict_itemiterator","dict_reverseitemiterator","odict_iterator","itertools.zip_longest","itertools.pairwise"].contains n&&vs[0]? == some (rawInt _))=true then _ else _) Q E s
       rw [Qm (by intro h;rw [hn,Bool.false_and] at h;cases h)]
       exact Qd hQ))
noncomputable def qc (K:Qb) (a:Addr):It:=
 ⟨λi H=>∃xs x,SqL K H a xs/\xs[i]?=some x,λi H x H'=>H'=H/\∀xs,SqL K H a xs->xs[i]?=some x,λi H=>∃xs,SqL K H a xs/\xs.length<=i⟩
noncomputable def vX (K:Qb) (a:Addr):It:=
 ⟨λi H=>∃xs x,SqT K H a xs/\xs[i]?=some x,λi H x H'=>H'=H/\∀xs,SqT K H a xs->xs[i]?=some x,λi H=>∃xs,SqT K H a xs/\xs.length<=i⟩
def p9 (lo:Int) (n:Nat):It:=⟨λi _=>i<n,λi H x H'=>H'=H/\x=.int (lo+i),λi _=>n<=i⟩
theorem qG3 {P:Program}{w:World}{K:Qb}{tg:Expr}(a it:Addr):Turn P w K tg (qc K a) [it] it (λi h=>h.IsListIter it a i) where
 mem:=by simp
 obj:=λi h st b hb=>by
  have e:b=it:=by simpa using hb
  subst e
  obtain⟨o,e,c,d⟩:=st
  exact⟨o,e,λv z=>by rw [d] at z;cases z⟩
 keep:=λi h h' st k=>st.at λo e=>k it (by simp) o e
 item:=by
  intro X hP hw hK hc i pins s Z H E I hf st hg
  subst hP hw hK
  obtain⟨xs,x,hq,hx⟩:=hg
  obtain⟨its,rv,p,hz⟩:=I.list hq
  obtain⟨u,hu,ru⟩:=rv.get hx
  obtain⟨f0,f1,f2,f3,f4,f5⟩:=hf it (by simp)
  refine wpAny_pyNext_list_item st p.isList (x:=u) (by simpa using hu) λh' st' sb=>?_
  have I1:Inv X pins Z H { s with heap:=h' }:=I.turned (t':=s.toks) (λb o hb e=>(sb.2 b hb).trans e) f0 f1 f3 f4 f5
  obtain⟨o,e,c,d⟩:=id st'
  exact⟨u,rfl,lM (s:={ s with heap:=h' }) e c d (by decide) ⟨x,H,I1,ru,⟨rfl,λys hy=>by rw [I.list_inj hy hq];exact hx⟩,st',λb hb=>(hf b hb).1⟩⟩
 done:=by
  intro X hP hw hK hc i pins s Z H E I hf st hg
  subst hP hw hK
  obtain⟨xs,hq,hx⟩:=hg
  obtain⟨its,rv,p,hz⟩:=I.list hq
  obtain⟨f0,f1,f2,f3,f4,f5⟩:=hf it (by simp)
  have hl:=rv.length
  exact wpAny_pyNext_list_end (I.ok.hd hc) st p.isList (by simp;omega) λh' eb=>⟨rfl,I.turned (t':=s.toks) (λb o hb e=>eb b o hb e) f0 f1 f3 f4 f5⟩
 self:=λ_ _ _ _ _ st h=>wpAny_pyIter_listiter st h
theorem qGr {P:Program}{w:World}{K:Qb}{tg:Expr}(a it:Addr):Turn P w K tg (vX K a) [it] it (λi h=>h.IsTupleIter it a i) where
 mem:=by simp
 obj:=λi h st b hb=>by
  have e:b=it:=by simpa using hb
  subst e
  obtain⟨o,e,c,d⟩:=st
  exact⟨o,e,λv z=>by rw [d] at z;cases z⟩
 keep:=λi h h' st k=>st.at λo e=>k it (by simp) o e
 item:=by
  intro X hP hw hK hc i pins s Z H E I hf st hg
  subst hP hw hK
  obtain⟨xs,x,hq,hx⟩:=hg
  obtain⟨its,rv,p,hz⟩:=I.tuple hq
  obtain⟨u,hu,ru⟩:=rv.get hx
  obtain⟨f0,f1,f2,f3,f4,f5⟩:=hf it (by simp)
  refine wpAny_pyNext_tuple_item st (show s.heap.IsTuple a its.toArray from p) (x:=u) (by simpa using hu) λh' st' sb=>?_
  have I1:Inv X pins Z H { s with heap:=h' }:=I.turned (t':=s.toks) (λb o hb e=>(sb.2 b hb).trans e) f0 f1 f3 f4 f5
  obtain⟨o,e,c,d⟩:=id st'
  exact⟨u,rfl,lM (s:={ s with heap:=h' }) e c d (by decide) ⟨x,H,I1,ru,⟨rfl,λys hy=>by rw [I.tuple_inj hy hq];exact hx⟩,st',λb hb=>(hf b hb).1⟩⟩
 done:=by
  intro X hP hw hK hc i pins s Z H E I hf st hg
  subst hP hw hK
  obtain⟨xs,hq,hx⟩:=hg
  obtain⟨its,rv,p,hz⟩:=I.tuple hq
  obtain⟨f0,f1,f2,f3,f4,f5⟩:=hf it (by simp)
  have hl:=rv.length
  exact wpAny_pyNext_tuple_end (I.ok.hd hc) st (show s.heap.IsTuple a its.toArray from p) (by simp;omega) λh' eb=>⟨rfl,I.turned (t':=s.toks) (λb o hb e=>eb b o hb e) f0 f1 f3 f4 f5⟩
 self:=λ_ _ _ _ _ st h=>wpAny_pyIter_tupleiter st h
theorem qGs {P:Program}{w:World}{K:Qb}{tg:Expr}(it:Addr) (lo:Int) (n:Nat):Turn P w K tg (p9 lo n) [it] it (λi h=>IsRangeIter h it (lo+(i:Nat) * 1) ((n:Int) - (i:Nat)) 1) where
 mem:=by simp
 obj:=λi h st b hb=>by
  have e:b=it:=by simpa using hb
  subst e
  exact⟨_,st,λv z=>by
   have z':Data.fields _=Data.cell v:=z
   cases z'⟩
 keep:=λi h h' st k=>k it (by simp) _ st
 item:=by
  intro X hP hw hK hc i pins s Z H E I hf st hg
  subst hP hw hK
  obtain⟨f0,f1,f2,f3,f4,f5⟩:=hf it (by simp)
  have W:=Walks.range (prog:=X.prog) (w:=X.w) (I.ok.hd hc) it lo 1 n
  refine W.item i s _ _ hg st λv h' tk hv st' kk=>?_
  obtain⟨t,rfl⟩:=hv
  have I1:Inv X pins Z H { s with heap:=h',toks:=tk }:=I.turned (λb o hb e=>kk b o (by simpa using hb) e) f0 f1 f3 f4 f5
  refine⟨_,rfl,lM (s:={ s with heap:=h',toks:=tk }) (n:="range_iterator") st' rfl rfl (by decide) ⟨.int (lo+i),H,I1,⟨t,?_⟩,⟨rfl,rfl⟩,st',λb hb=>(hf b hb).1⟩⟩
  rw [Int.mul_one]
 done:=by
  intro X hP hw hK hc i pins s Z H E I hf st hg
  subst hP hw hK
  obtain⟨f0,f1,f2,f3,f4,f5⟩:=hf it (by simp)
  exact wpAny_pyNext_range_end (I.ok.hd hc) st (by have:n<=i:=hg;omega) λh' eb=>⟨rfl,I.turned (t':=s.toks) (λb o hb e=>eb b o hb e) f0 f1 f3 f4 f5⟩
 self:=λ_ _ _ _ _ st h=>wpAny_pyIter_rangeiter st h
end L2
namespace L2
open PySem PySem.Spec PyProof.Rows
section
variable {X:Cx}{tg:Expr}
theorem qJI {pins:List (Addr×Obj)}{Z:St}{H:Hp}{s:Shared}{R:It->Hp->Prop}{E:Value->Shared->Prop}{lo hi:Int}{t u v:Tok}{tk:Nat}(I:Inv X pins Z H s) (h1:-(2^62)<=lo) (h2:lo<2^62) (h3:-(2^62)<=hi) (h4:hi<2^62)
  (q:R (p9 lo (hi - lo).toNat) H):wpAny (model X.prog X.w) X.A (pyIter (.ref s.heap.objs.size)) (mW X pins Z tg R) E { s with heap:=s.heap.push { cls:=.type "range",data:=.fields #[.int lo t,.int hi u,.int 1 v] },toks:=tk }:=by
 refine wpAny_pyIter_range (IsRange.new ..) (small_one h1 h2 h3 h4) ?_
 have I1:Inv X pins Z H { s with heap:=s.heap.push { cls:=.type "range",data:=.fields #[.int lo t,.int hi u,.int 1 v] },toks:=tk }:=I.kept λb o e=>Qg _ e
 refine⟨(s.heap.push { cls:=.type "range",data:=.fields #[.int lo t,.int hi u,.int 1 v] }).objs.size,[(s.heap.push { cls:=.type "range",data:=.fields #[.int lo t,.int hi u,.int 1 v] }).objs.size],_,_,H,rfl,
  I1.kept (t':=tk) λb o e=>Qg _ e,qGs _ lo (hi - lo).toNat,?_,λb hb=>?_,q⟩
 ·have e1:lo+((0:Nat):Int) * 1=lo:=by simp
  have e2:(((hi - lo).toNat:Nat):Int) - ((0:Nat):Int)=Builtin.Range.rangeSize lo hi 1:=by rw [rangeSize_one];split<;>omega
  show IsRangeIter _ _ (lo+((0:Nat):Int) * 1) ((((hi - lo).toNat:Nat):Int) - ((0:Nat):Int)) 1
  rw [e1,e2]
  exact Qh _ rfl
 ·have e:b=(s.heap.push { cls:=.type "range",data:=.fields #[.int lo t,.int hi u,.int 1 v] }).objs.size:=by simpa using hb
  subst e
  exact I1.fpOk (aK _) (I1.hok.fresh (aK _))
def qSj (ta:TA):TI:=fun Z H R=>ta Z H λvs H1=>∃j:Int,vs=[.int j]/\-(2^62)<=j/\j<2^62/\R (p9 0 j.toNat) H1
theorem qHK {a:Expr}{ta:TA}{p pos:Pos}(hg:Gl X "range") (hm:X.mg "range"=none) (ha:PA X [a] ta) (hs:starEach [a] X.env=[(false,eval a X.env)]:=by rfl):PI X tg (.Call (.Name "range" p) [a] [] pos) (qSj ta):=by
 intro pins s Z H R I h
 refine Call_ (gz I hg hm boot_range (ie (aB (ha pos pins s Z H _ I h) λus s1 ⟨vs,H1,I1,r1,q1⟩=>?_) hs rfl))
 obtain⟨j,e,q1,q2,q⟩:=q1
 subst e
 cases r1 with
 | cons r rr =>
  cases rr
  obtain⟨t,rfl⟩:=r
  exact call_range_1 (qJI I1 (by omega) (by omega) q1 q2 (by simpa using q))
noncomputable def qTI (wi:TI) (g:TG) (tb:TS):TS:=λD Z H=>wi Z H λJ H1=>∃W:Nat->Nat->St->Hp->Prop,(∃m,W 0 m Z H1)/\∀i m Z H,W i m Z H ->
 (J.stop i H/\D.nx Z H)∨(J.go i H/\∃N:St->Hp->Prop,(∀Z' H',N Z' H'->∃m',m'<m/\W (i+1) m' Z' H')/\∀x H',J.yld i H x H'->g x Z H' fun Z2 H2=>tb { D with nx:=N,ct:=N,bk:=D.nx } Z2 H2)
def pf (fp:List Addr) (h:Heap):List (Addr×Obj):=fp.filterMap λb=>(h.get? b).map λo=>(b,o)
theorem kW {fp:List Addr}{h:Heap}{b:Addr}{o:Obj}(hb:b∈fp) (e:h.get? b=some o):(b,o)∈pf fp h:=List.mem_filterMap.mpr ⟨b,hb,by rw [e];rfl⟩
theorem qHQ {fp:List Addr}{h:Heap}{p:Addr×Obj}(hp:p∈pf fp h):p.1∈fp/\h.get? p.1=some p.2:=by
 obtain⟨b,hb,e⟩:=List.mem_filterMap.mp hp
 cases q:h.get? b with
 | none=>rw [q] at e;cases e
 | some o =>
  rw [q] at e
  have e':(b,o)=p:=fB e
  subst e'
  exact⟨hb,q⟩
theorem Inv.pinned {pins:List (Addr×Obj)}{Z:St}{H:Hp}{s:Shared}{fp:List Addr}(I:Inv X pins Z H s) (hf:∀b∈fp,dX X pins H b) (ho:∀b∈fp,∃o,s.heap.get? b=some o/\∀v,o.data≠.cell v):Inv X (pins++pf fp s.heap) Z H s:=
 I.pins_of λp hp=>(List.mem_append.mp hp).elim (λz=>I.pin p (eT _ z)) λz=>by
  obtain⟨hb,e⟩:=qHQ z
  obtain⟨f0,f1,f2,_⟩:=hf p.1 hb
  obtain⟨o,e',d⟩:=ho p.1 hb
  rw [e] at e';cases e'
  exact⟨e,f0,f1,f2,d⟩
theorem Inv.unpinned {pins pl:List (Addr×Obj)}{Z:St}{H:Hp}{s:Shared}(I:Inv X (pins++pl) Z H s):Inv X pins Z H s:=I.pins_of λp hp=>I.pin p (eT _ (List.mem_append_left _ hp))
theorem qOU {iter:Expr}{body:List Stmt}{wi:TI}{g:TG}{tb:TS}{pos:Pos}(hp:PassesOwn (model X.prog X.w) X.A X.env X.xe) (hc:X.calm=true) (hi:PI X tg iter wi) (hg:PG X tg g) (hb:PSs X body tb)
  (hs:∀x,foldedSetIterable iter X.env x=pure x:=by intro _;rfl):PS X (.For tg iter body [] pos) (qTI wi g tb):=by
 intro pins s Z H D I h
 refine wpAny_For (aB (hi pins s Z H _ I h) λv s1 h1=>aB h1 λitv s2 h2=>?_) hs
 obtain⟨it,fp,tn,J,H2,e,I2,T,st2,f2,W,⟨m0,w0⟩,turn⟩:=h2
 subst e
 have stat:∀{H':Hp},(∀b∈fp,H' b=none)->∀b∈fp,dX X pins H' b:=λhn b hb=>⟨hn b hb,(f2 b hb).2⟩
 refine codeAny_forLoop_any (λn s'=>∃i Z' H',Inv X pins Z' H' s'/\tn i s'.heap/\(∀b∈fp,H' b=none)/\W i n Z' H') ?_ m0 ⟨0,Z,H2,I2,st2,λb hb=>(f2 b hb).1,w0⟩
 rintro n s3 ⟨i,Z3,H3,I3,st3,fr3,w3⟩
 rcases turn i n Z3 H3 w3 with ⟨stop,qn⟩|⟨go,N,hN,step⟩
 ·refine wpAny_passesOwn hp (aB (T.done X rfl rfl rfl hc i pins s3 Z3 H3 X.xe I3 (stat fr3) st3 stop) λr s4 ⟨hr,I4⟩=>?_)
  subst hr
  exact wpAny_execs_nil ⟨Z3,H3,I4,qn⟩
 ·refine wpAny_passesOwn hp (aB (T.item X rfl rfl rfl hc i pins s3 Z3 H3 X.xe I3 (stat fr3) st3 go) λr s4 ⟨u,hr,h4⟩=>?_)
  subst hr
  refine wpAny_passesOwn hp (aB h4 λ_ s5 ⟨x,H5,I5,r5,y5,st5,fr5⟩=>?_)
  have I5':=I5.pinned (stat fr5) (T.obj _ _ st5)
  refine wpAny_passesOwn hp (aB (hg _ s5 Z3 H5 x u _ I5' r5 (step x H5 y5)) λ_ s6 ⟨Z6,H6,I6,q6⟩=>?_)
  refine wpAny_passesOwn hp (aB (hb _ s6 Z6 H6 _ I6 q6) λf s7 q7=>?_)
  have again:∀{Z7:St} {H7:Hp},Inv X (pins++pf fp s5.heap) Z7 H7 s7->N Z7 H7->∃m,m<n/\∃i Z' H',Inv X pins Z' H' s7/\tn i s7.heap/\(∀b∈fp,H' b=none)/\W i m Z' H':=λ{Z7 H7} I7 n7=>by
   obtain⟨m',hm,w7⟩:=hN Z7 H7 n7
   refine⟨m',hm,i+1,Z7,H7,I7.unpinned,T.keep _ _ _ st5 λb hb o e=>(I7.pin (b,o) (eT _ (eT _ (kW hb e)))).1,λb hb=>?_,w7⟩
   obtain⟨o,e,d⟩:=T.obj _ _ st5 b hb
   exact (I7.pin (b,o) (eT _ (eT _ (kW hb e)))).2.1
  cases f with
  | next=>obtain⟨Z7,H7,I7,n7⟩:=q7;exact again I7 n7
  | cont=>obtain⟨Z7,H7,I7,n7⟩:=q7;exact again I7 n7
  | brk=>obtain⟨Z7,H7,I7,q7⟩:=q7;exact⟨Z7,H7,I7.unpinned,q7⟩
  | ret v=>obtain⟨x7,Z7,H7,I7,r7,q7⟩:=q7;exact⟨x7,Z7,H7,I7.unpinned,r7,q7⟩
end
end L2
namespace L2
open PySem PySem.Spec PyProof.Rows
abbrev R2:=V->V->Hp->VK->Prop
def OpR (X:Cx) (f:Value->Value->Sem Value) (r:R2):Prop:=
 ∀(pins:List (Addr×Obj)) (s:Shared) (Z:St) (H:Hp) (x y:V) (v u:Value) (Q:VK),Inv X pins Z H s->RelV x v->RelV y u->r x y H Q ->
   wpAny (model X.prog X.w) X.A (f v u) (EP X pins Z Q) X.xe s
def vU (X:Cx) (f:Value->Sem Value) (r:V->Hp->VK->Prop):Prop:=
 ∀(pins:List (Addr×Obj)) (s:Shared) (Z:St) (H:Hp) (x:V) (v:Value) (Q:VK),Inv X pins Z H s->RelV x v->r x H Q ->
   wpAny (model X.prog X.w) X.A (f v) (EP X pins Z Q) X.xe s
def CallR (X:Cx) (f:Value) (r:List V->Hp->VK->Prop):Prop:=
 ∀(pins:List (Addr×Obj)) (s:Shared) (Z:St) (H:Hp) (xs:List V) (us:List Value) (Q:VK),Inv X pins Z H s->Vals xs us->r xs H Q ->
   wpAny (model X.prog X.w) X.A (call f us) (EP X pins Z Q) X.xe s
noncomputable def nY (r:R2) (ta tb:TE):TE:=fun Z H Q=>ta Z H λx H1=>tb Z H1 λy H2=>r x y H2 Q
noncomputable def tUn (r:V->Hp->VK->Prop) (ta:TE):TE:=fun Z H Q=>ta Z H λx H1=>r x H1 Q
noncomputable def rI (C:Int->Int->Prop) (g:Int->Int->V):R2:=λx y H Q=>∃i j,x=.int i/\y=.int j/\C i j/\Q (g i j) H
noncomputable def gH (g:Int->Int->V):R2:=λx y H Q=>∃i j,x=.int i/\y=.int j/\Q (g i j) H
def rU (g:Int->V):V->Hp->VK->Prop:=λx H Q=>∃i,x=.int i/\Q (g i) H
section
variable {X:Cx}{a b c:Expr}{ta tb tc:TE}{pos:Pos}
theorem ro (ha:PE X a ta) (hb:PE X b tb) {pins:List (Addr×Obj)}{s:Shared}{Z:St}{H:Hp}{R:V->V->Hp->Prop}(I:Inv X pins Z H s)
  (h:ta Z H λx H1=>tb Z H1 λy H2=>R x y H2) {Q:Value->Shared->Prop}{f:Value->Value->Sem Value}
  (hf:∀v u s2 x y H2,Inv X pins Z H2 s2->RelV x v->RelV y u->R x y H2->wpAny (model X.prog X.w) X.A (f v u) Q X.xe s2) :
  wpAny (model X.prog X.w) X.A (eval a X.env) (λv s₁=>wpAny (model X.prog X.w) X.A (eval b X.env) (λu s₂=>wpAny (model X.prog X.w) X.A (f v u) Q X.xe s₂) X.xe s₁) X.xe s:=by
 refine aB (ha pins s Z H _ I h) λv s1 ⟨x,H1,I1,r1,q1⟩=>?_
 refine aB (hb pins s1 Z H1 _ I1 q1) λu s2 ⟨y,H2,I2,r2,q2⟩=>?_
 exact hf v u s2 x y H2 I2 r1 r2 q2
theorem qRV {op:Operator}{r:R2}(ho:OpR X (binaryOp op) r) (ha:PE X a ta) (hb:PE X b tb):PE X (.BinOp a op b pos) (nY r ta tb):=by
 intro pins s Z H Q I h
 exact wpAny_BinOp (ro ha hb I h λv u s2 x y H2 I2 rx ry q=>ho pins s2 Z H2 x y v u Q I2 rx ry q)
theorem qRT {op:UnaryOp}{r:V->Hp->VK->Prop}(ho:vU X (unaryOp op) r) (ha:PE X a ta):PE X (.UnaryOp op a pos) (tUn r ta):=by
 intro pins s Z H Q I h
 exact UnaryOp_ (aB (ha pins s Z H _ I h) λv s1 ⟨x,H1,I1,r1,q1⟩=>ho pins s1 Z H1 x v Q I1 r1 q1)
theorem hO {f:Value->Value->Sem Value}{C:Int->Int->Prop}{g:Int->Int->Int}
  (rule:∀(i j:Int) (t u:Tok) (s:Shared) (Q:Value->Shared->Prop) (E:Value->Shared->Prop),C i j->Q (.int (g i j) s.toks) { s with toks:=s.toks+1 }->wpAny (model X.prog X.w) X.A (f (.int i t) (.int j u)) Q E s) :
  OpR X f (rI C λi j=>.int (g i j)):=by
 intro pins s Z H x y v u Q I rx ry h
 obtain⟨i,j,rfl,rfl,hc,q⟩:=h
 obtain⟨t,rfl⟩:=rx
 obtain⟨t',rfl⟩:=ry
 exact rule i j t t' s _ _ hc ⟨.int (g i j),H,I.tok _,⟨_,rfl⟩,q⟩
theorem xj {f:Value->Value->Sem Value}{g:Int->Int->Int}
  (rule:∀(i j:Int) (t u:Tok) (s:Shared) (Q:Value->Shared->Prop) (E:Value->Shared->Prop),Q (.int (g i j) s.toks) { s with toks:=s.toks+1 }->wpAny (model X.prog X.w) X.A (f (.int i t) (.int j u)) Q E s) :
  OpR X f (gH λi j=>.int (g i j)):=by
 intro pins s Z H x y v u Q I rx ry h
 obtain⟨i,j,rfl,rfl,q⟩:=h
 obtain⟨t,rfl⟩:=rx
 obtain⟨t',rfl⟩:=ry
 exact rule i j t t' s _ _ ⟨.int (g i j),H,I.tok _,⟨_,rfl⟩,q⟩
theorem oj {f:Value->Value->Sem Value}{g:Int->Int->Bool}
  (rule:∀(i j:Int) (t u:Tok) (s:Shared) (Q:Value->Shared->Prop) (E:Value->Shared->Prop),Q (.bool (g i j)) s->wpAny (model X.prog X.w) X.A (f (.int i t) (.int j u)) Q E s) :
  OpR X f (gH λi j=>.bl (g i j)):=by
 intro pins s Z H x y v u Q I rx ry h
 obtain⟨i,j,rfl,rfl,q⟩:=h
 obtain⟨t,rfl⟩:=rx
 obtain⟨t',rfl⟩:=ry
 exact rule i j t t' s _ _ ⟨.bl (g i j),H,I,rfl,q⟩
def qUr (i j:Int):Prop:=0<=j/\j<=1000000/\i.natAbs<2^64
theorem qGq (k:Nat):(0:Int)<=2^k:=by
 rw [two_pow_cast]
 exact Int.natCast_nonneg _
theorem op_add:OpR X (binaryOp .Add) (gH λi j=>.int (i+j)):=xj λ_ _ _ _ _ _ _ q=>add_int q
theorem qPh:OpR X (binaryOp .Sub) (gH λi j=>.int (i - j)):=xj λ_ _ _ _ _ _ _ q=>sub_int q
theorem qPj:OpR X (binaryOp .LShift) (rI qUr λi j=>.int (i * 2^j.toNat)):=hO λ_ _ _ _ _ _ _ hc q=>lshift_int_small hc.1 hc.2.1 hc.2.2 q
theorem qPi:OpR X (binaryOp .RShift) (rI (λ_ j=>0<=j) λi j=>.int (i / 2^j.toNat)):=hO λi j _ _ _ _ _ hc q =>
 rshift_int hc (by rw [Int.fdiv_eq_ediv_of_nonneg i (qGq _)];exact q)
theorem unI {f:Value->Sem Value}{g:Int->Int}
  (rule:∀(i:Int) (t:Tok) (s:Shared) (Q:Value->Shared->Prop) (E:Value->Shared->Prop),Q (.int (g i) s.toks) { s with toks:=s.toks+1 }->wpAny (model X.prog X.w) X.A (f (.int i t)) Q E s) :
  vU X f (rU λi=>.int (g i)):=by
 intro pins s Z H x v Q I rx h
 obtain⟨i,rfl,q⟩:=h
 obtain⟨t,rfl⟩:=rx
 exact rule i t s _ _ ⟨.int (g i),H,I.tok _,⟨_,rfl⟩,q⟩
theorem qN9:vU X (unaryOp .USub) (rU λi=>.int (-i)):=unI λ_ _ _ _ _ q=>neg_int q
end
section
variable {X:Cx}{a b c:Expr}{ta tb tc:TE}{pos:Pos}
theorem qR0:OpR X (compareOp .Lt) (gH λi j=>.bl (decide (i<j))):=oj λ_ _ _ _ _ _ _ q=>lt_int q
theorem qR1:OpR X (compareOp .LtE) (gH λi j=>.bl (decide (i<=j))):=oj λ_ _ _ _ _ _ _ q=>le_int q
theorem qR2:OpR X (compareOp .Gt) (gH λi j=>.bl (decide (j<i))):=oj λ_ _ _ _ _ _ _ q=>gt_int q
theorem qR3:OpR X (compareOp .GtE) (gH λi j=>.bl (decide (j<=i))):=oj λ_ _ _ _ _ _ _ q=>ge_int q
theorem OpR.or {f:Value->Value->Sem Value}{r r':R2}(h:OpR X f r) (h':OpR X f r'):OpR X f (λx y H Q=>r x y H Q∨r' x y H Q):=by
 intro pins s Z H x y v u Q I rx ry q
 rcases q with q|q
 ·exact h pins s Z H x y v u Q I rx ry q
 ·exact h' pins s Z H x y v u Q I rx ry q
theorem qPu (b:Expr) {op:CmpOp}(h:op≠.In:=by decide) (h2:op≠.NotIn:=by decide):behindInMarks op b=false:=by
 have e1:(op == CmpOp.In)=false:=by cases op<;>first|rfl|exact Qn rfl h
 have e2:(op == CmpOp.NotIn)=false:=by cases op<;>first|rfl|exact Qn rfl h2
 cases b<;>simp [behindInMarks,e1,e2]
theorem zO {op:CmpOp}{r:R2}(ho:OpR X (compareOp op) r) (ha:PE X a ta) (hb:PE X b tb) (hm:behindInMarks op b=false):PE X (.Compare a [op] [b] pos) (nY r ta tb):=by
 intro pins s Z H Q I h
 exact wpAny_Compare1 (ro ha hb I h λv u s2 x y H2 I2 rx ry q=>ho pins s2 Z H2 x y v u Q I2 rx ry q) hm
noncomputable def qRt (t:TE):TT:=fun Z H Q=>t Z H λx H'=>∃k,x=.bl k/\Q k H'
theorem zW {op:CmpOp}{r:R2}(ho:OpR X (compareOp op) r) (ha:PE X a ta) (hb:PE X b tb) (hm:behindInMarks op b=false):PT X (.Compare a [op] [b] pos) (qRt (nY r ta tb)):=by
 intro pins s Z H Q I h
 refine wpAny_isTrue_Compare1 (aB (ha pins s Z H _ I h) λv s1 ⟨x,H1,I1,r1,q1⟩=>aB (hb pins s1 Z H1 _ I1 q1) λu s2 ⟨y,H2,I2,r2,q2⟩ =>
  aB (ho pins s2 Z H2 x y v u _ I2 r1 r2 q2) λc s3 ⟨z,H3,I3,r3,k,e,q3⟩=>?_) hm
 subst e
 cases r3
 exact wpAny_truthy_bool ⟨H3,I3,q3⟩
theorem rT:(sizeLine:Nat)<2^63:=by rw [sizeLine_eq];decide
theorem qGE:OpR X (binaryOp .Add) (λx y H Q=>∃i j,x=.str i/\y=.str j/\i.length+j.length<=sizeLine/\Q (.str (i++j)) H):=by
 intro pins s Z H x y v u Q I rx ry h
 obtain⟨i,j,rfl,rfl,hz,q⟩:=h
 obtain⟨t,rfl⟩:=rx
 obtain⟨t',rfl⟩:=ry
 exact add_str (λt' tk=>⟨.str (i++j),H,I.tok _,⟨_,rfl⟩,q⟩) hz
theorem fH {x:V}{us:List Value}(r:Vals [x] us):∃u,us=[u]/\RelV x u:=by
 cases r with
 | cons r1 r2=>cases r2;exact⟨_,rfl,r1⟩
theorem rL {x y:V}{us:List Value}(r:Vals [x,y] us):∃u w',us=[u,w']/\RelV x u/\RelV y w':=by
 cases r with
 | cons r1 r2 =>
  cases r2 with
  | cons r3 r4=>cases r4;exact⟨_,_,rfl,r1,r3⟩
theorem qIN (hc:X.calm=true):CallR X (.builtin "max") (λxs H Q=>∃i j,xs=[.int i,.int j]/\Q (.int (if j > i then j else i)) H):=by
 intro pins s Z H xs us Q I r h
 obtain⟨i,j,rfl,q⟩:=h
 obtain⟨u,w',rfl,⟨t,rfl⟩,⟨t',rfl⟩⟩:=rL r
 refine max_two_ints (I.ok.hd hc) λh' tk k=>⟨_,H,I.kept k,?_,q⟩
 by_cases hj:j > i
 ·rw [Ql hj,Ql hj];exact⟨_,rfl⟩
 ·rw [Qm hj,Qm hj];exact⟨_,rfl⟩
theorem qIK (hc:X.calm=true):CallR X (.builtin "min") (λxs H Q=>∃i j,xs=[.int i,.int j]/\Q (.int (if j<i then j else i)) H):=by
 intro pins s Z H xs us Q I r h
 obtain⟨i,j,rfl,q⟩:=h
 obtain⟨u,w',rfl,⟨t,rfl⟩,⟨t',rfl⟩⟩:=rL r
 refine min_two_ints (I.ok.hd hc) λh' tk k=>⟨_,H,I.kept k,?_,q⟩
 by_cases hj:j<i
 ·rw [Ql hj,Ql hj];exact⟨_,rfl⟩
 ·rw [Qm hj,Qm hj];exact⟨_,rfl⟩
theorem qIQ:CallR X (.type "int") (λxs H Q=>(∃i,xs=[.int i]/\Q (.int i) H)∨∃k,xs=[.bl k]/\Q (.int (if k then 1 else 0)) H):=by
 intro pins s Z H xs us Q I r h
 rcases h with ⟨i,rfl,q⟩|⟨k,rfl,q⟩
 ·obtain⟨u,rfl,t,rfl⟩:=fH r
  exact call_int_int ⟨.int i,H,I,⟨_,rfl⟩,q⟩
 ·obtain⟨u,rfl,r1⟩:=fH r
  cases r1
  exact call_int_bool ⟨.int (if k then 1 else 0),H,I.tok _,⟨_,rfl⟩,q⟩
end
end L2
namespace L2
open PySem PySem.Spec PyProof.Rows
structure ObjM (h:Heap) (x dx C:Addr) (mA:Str->Option Value):Prop where
 obj:h.get? x=some (PySem.W.instObj C dx)
 ns:h.Ns1 dx mA
 ne:dx≠x
theorem qHY {h:Heap}{dx:Addr}{mA:Str->Option Value}(n:h.Ns1 dx mA):∃od,h.get? dx=some od/\∀name,PySem.W.lookIn name od=some (mA name):=by
 obtain⟨o,es,ep,ho,hd,hk,_,hm⟩:=n
 refine⟨o,ho,λname=>?_⟩
 have e:=hm name
 unfold nsFind findBy at e
 rw [<-Array.find?_toList] at e
 unfold PySem.W.lookIn
 rw [hd]
 dsimp only
 split
 ·rename_i y q
  rw [q] at e
  exact congrArg some e
 ·rename_i q
  rw [q] at e
  have a:es.toList.any (·.refKey)=false:=by
   rw [List.any_eq_false]
   intro y hy
   obtain⟨z,t,hkey⟩:=hk y (Array.mem_toList_iff.mp hy)
   simp [DictEntry.refKey,hkey]
  have a':¬es.toList.any (·.refKey)=true:=by rw [a];exact fg
  rw [Qm a']
  exact congrArg some e
theorem ObjM.look {h:Heap}{x dx C:Addr}{mA:Str->Option Value}(I:ObjM h x dx C mA):∃od,PySem.W.InstAt h x (PySem.W.instObj C dx) C (some od)/\∀name,PySem.W.lookIn name od=some (mA name):=
 let ⟨od,ho,hl⟩:=qHY I.ns
 ⟨od,⟨I.obj,rfl,rfl,ho⟩,hl⟩
section
variable {prog:Program}{w:World}{A:Around}{E:Value->Shared->Prop}{s:Shared}{K:Qb}{x dx C f:Addr}{mA:Str->Option Value}{name:Str}{v:Value}
theorem qNr {expr:Bool}{Q:Value->Shared->Prop}(X:K.In s.heap) (I:ObjM s.heap x dx C mA) (hg:PySem.W.plainGet K C name=true) (hh:PySem.W.hasDictIn K C=true)
  (ha:PySem.W.findIn K (.ref C) name=some none) (hv:mA name=some v) (hv':PySem.W.handedIn v=true) (h:Q v { s with toks:=s.toks+1 }) :
  wpAny (model prog w) A (getAttr (.ref x) name expr) Q E s:=by
 obtain⟨od,J,hl⟩:=I.look
 exact PySem.W.get_value X J (qw hg).1 (PySem.W.findObj_own hh ha rfl (by rw [hl,hv])) hv' h
theorem qKi {pl:Sem Bool}{Q:Value×List Value->Shared->Prop}(X:K.In s.heap) (I:ObjM s.heap x dx C mA) (hg:PySem.W.plainGet K C name=true)
  (hf:PySem.W.findIn K (.ref C) name=some (some (.ref f))) (ht:PySem.W.isFn K (.ref f)=true) (hv:mA name=none) (h:Q (.ref f,[.ref x]) s) :
  wpAny (model prog w) A (getMethod (.ref x) name pl) Q E s:=by
 obtain⟨od,J,hl⟩:=I.look
 exact PySem.W.method_fn X J (qw hg).1 (qw hg).2 hf (beq_iff_eq.mp ht) (by show (PySem.W.lookIn name od).map (·.isSome)=some false;rw [hl,hv];rfl) h
theorem qMz {ns:List Str}{Q:Unit->Shared->Prop}(X:K.In s.heap) (I:ObjM s.heap x dx C mA)
  (hs:PySem.W.findIn K (.ref C) "__setattr__"=some (some (.builtin "object.__setattr__"))) (hp:PySem.W.plainOver K C=true) (ht:PySem.W.takerIn K C name=some none) (hh:PySem.W.hasDictIn K C=true)
  (hw:PySem.Within mA ns) (hsz:ns.length<=sizeLine)
  (h:∀h',ObjM h' x dx C (λy=>if y=name then some v else mA y)->Heap.SameBut dx s.heap h'->Q () { s with heap:=h',toks:=s.toks+2 }) :
  wpAny (model prog w) A (setAttr (.ref x) name v) Q E s:=by
 obtain⟨od,J,hl⟩:=I.look
 refine PySem.W.set_plain X J hs (PySem.W.osa_open (s:={ s with toks:=s.toks+1 }) (r:=none) X J hp ht λb=>?_)
 obtain⟨cd,hc,hd'⟩:=PySem.W.any_some hh
 have hx:s.heap.get? x=some ⟨.ref C,some dx,.plain,#[]⟩:=I.obj
 refine Qc (Qd (Qc (Qc (wpAny_loadPart hx (Qc (PySem.W.Looks.here (s:={ s with toks:=s.toks+1 }) (PySem.W.looks_clsIn X hc) ?_))))))
 rw [hd']
 refine Qd (a:=some dx) (Qc (Qd (Qc ?_)))
 refine wpAny_nsSet1 (s:={ s with toks:=s.toks+1 }) I.ns λh' hn2 hs2=>?_
 obtain⟨oD,esD,epD,hoD,hdD,hcD⟩:=hn2.count (PySem.Within.cons name v hw)
 refine Qc (wpAny_lookBehind hoD (by rw [hdD];exact pastItsLine_dict (dM hcD (by rw [fC];omega))) ?_)
 exact Qd (h _ ⟨(hs2.2 _ (Ne.symm I.ne)).trans I.obj,hn2,I.ne⟩ hs2)
theorem qJ7 {R:Result->Shared->Prop}{vs:List Value}{kw:List (Str×Value)}(X:K.In s.heap) (hm:PySem.W.makesIn K C=true)
  (hi:PySem.W.findIn K (.ref C) "__init__"=some (some (.ref f))) (hf:PySem.W.typeIn K (.ref f)=some (.type "function"))
  (h:codeAny (model prog w) (A.under (.builtin "type.__call__" ⟨.ref C::vs,kw⟩)) (.call (.ref f) ⟨.ref (s.heap.objs.size+1)::vs,kw⟩) (PySem.W.InitBack (s.heap.objs.size+1) R)
   { s with heap:=(s.heap.push PySem.W.emptyDict).push (PySem.W.instObj C s.heap.objs.size) }) :
  codeAny (model prog w) A (.call (.ref C) ⟨vs,kw⟩) R s:=by
 obtain⟨hh,g,d,t,os⟩:=s
 exact PySem.W.make_core (qP X hm) (PySem.W.looks_findIn X hi) (λself=>PySem.W.bind_fn X self hf) (.inl rfl) h
theorem qHW {R:Result->Shared->Prop}(X:K.In s.heap) (hm:PySem.W.makesIn K C=true)
  (hi:PySem.W.findIn K (.ref C) "__init__"=some (some (.builtin "object.__init__")))
  (hb:∀self,PySem.W.Looks (model prog w) s.heap (bindSpecial (.builtin "object.__init__") self) (.builtin "object.__init__",[self]))
  (h:codeAny (model prog w) (A.under (.builtin "type.__call__" ⟨[.ref C],[]⟩)) (.call (.builtin "object.__init__") ⟨[.ref (s.heap.objs.size+1)],[]⟩) (PySem.W.InitBack (s.heap.objs.size+1) R)
   { s with heap:=(s.heap.push PySem.W.emptyDict).push (PySem.W.instObj C s.heap.objs.size) }) :
  codeAny (model prog w) A (.call (.ref C) ⟨[],[]⟩) R s:=by
 obtain⟨hh,g,d,t,os⟩:=s
 exact PySem.W.make_core (qP X hm) (PySem.W.looks_findIn X hi) hb (.inr ⟨rfl,rfl⟩) h
end
noncomputable def cB (f:Str) (v:V):List (Str×V)->List (Str×V)
 | []=>[(f,v)]
 | (g,x)::r=>if g=f then (g,v)::r else (g,x)::cB f v r
theorem pQ (f g:Str) (v:V):∀fs:List (Str×V),(cB f v fs).lookup g=if g=f then some v else fs.lookup g
 | []=>by
  show List.lookup g [(f,v)]=_
  by_cases h:g=f
  ·have hb:(g == f)=true:=beq_iff_eq.mpr h
   simp only [List.lookup,hb,Ql h]
  ·have hb:(g == f)=false:=beq_eq_false_iff_ne.mpr h
   simp only [List.lookup,hb,Qm h]
 | (k,x)::r=>by
  have ih:=pQ f g v r
  rw [show cB f v ((k,x)::r)=(if k=f then (k,v)::r else (k,x)::cB f v r) from rfl]
  by_cases hk:k=f
  ·rw [Ql hk]
   by_cases h:g=k
   ·have hb:(g == k)=true:=beq_iff_eq.mpr h
    simp only [List.lookup,hb,Ql (h.trans hk)]
   ·have hb:(g == k)=false:=beq_eq_false_iff_ne.mpr h
    simp only [List.lookup,hb,Qm (λe:g=f=>h (e.trans hk.symm))]
  ·rw [Qm hk]
   by_cases h:g=k
   ·have hb:(g == k)=true:=beq_iff_eq.mpr h
    simp only [List.lookup,hb,Qm (λe:g=f=>hk (h.symm.trans e))]
   ·have hb:(g == k)=false:=beq_eq_false_iff_ne.mpr h
    simp only [List.lookup,hb]
    exact ih
theorem tS (f:Str) (v:V):∀fs:List (Str×V),f∈(cB f v fs).map (·.1)/\∀g,g∈fs.map (·.1)->g∈(cB f v fs).map (·.1)
 | []=>⟨by simp [cB],λg h=>by simp at h⟩
 | (k,x)::r=>by
  obtain⟨i1,i2⟩:=tS f v r
  rw [show cB f v ((k,x)::r)=(if k=f then (k,v)::r else (k,x)::cB f v r) from rfl]
  by_cases hk:k=f
  ·rw [Ql hk]
   subst hk
   exact⟨by simp,λg h=>by simpa using h⟩
  ·rw [Qm hk]
   refine⟨?_,λg h=>?_⟩
   ·rw [gd]
    exact dq _ i1
   ·rw [gd] at h ⊢
    rcases yaf.mp h with e|e
    ·exact yaf.mpr (.inl e)
    ·exact dq _ (i2 g e)
theorem BF (f:Str) (v:V):∀fs:List (Str×V),(cB f v fs).length<=fs.length+1
 | []=>by simp [cB]
 | (k,x)::r=>by
  have ih:=BF f v r
  rw [show cB f v ((k,x)::r)=(if k=f then (k,v)::r else (k,x)::cB f v r) from rfl]
  by_cases hk:k=f
  ·rw [Ql hk,fC,fC];omega
  ·rw [Qm hk,fC,fC];omega
theorem RelO.some_of {v:V}{o:Option Value}(r:RelO (some v) o):∃u,o=some u/\RelV v u:=by
 cases o with
 | none=>exact (show False from r).elim
 | some u=>exact⟨u,rfl,r⟩
theorem RelO.none_of {o:Option Value}(r:RelO none o):o=none:=by
 cases o with
 | none=>rfl
 | some u=>exact (show False from r).elim
theorem qIa {v:V}{u:Value}(r:RelV v u):PySem.W.handedIn u=true:=by
 cases v with
 | non=>cases (show u=Value.none from r);rfl
 | bl b=>cases (show u=Value.bool b from r);rfl
 | int i=>obtain⟨t,e⟩:=(show ∃t,u=Value.int i t from r);cases e;rfl
 | str x=>obtain⟨t,e⟩:=(show ∃t,u=Value.str x t from r);cases e;rfl
 | byt b=>obtain⟨t,e⟩:=(show ∃t,u=Value.bytes b t from r);cases e;rfl
 | flt b=>obtain⟨t,e⟩:=(show ∃t,u=Value.float b t from r);cases e;rfl
 | ref a=>cases (show u=Value.ref a from r);rfl
 | ty n=>cases (show u=Value.type n from r);rfl
section
variable {P:Program}{w:World}{H H':Hp}{h h':Heap}{a C dx:Addr}{fs fs':List (Str×V)}
theorem sO (hok:HOk P w H h) (e:H a=some (.ins C dx fs)):∃mA,ObjM h a dx C mA/\(∀f,RelO (fs.lookup f) (mA f))/\PySem.Within mA (fs.map (·.1))/\fs.length<=1000/\H dx=some (.own a):=by
 obtain⟨d,z,ne,ob,mA,n,r,q⟩:=(show ObjOk P w H h a (.ins C dx fs) from hok a _ e)
 exact⟨mA,⟨ob,n,ne⟩,r,q,z,d⟩
end
structure Cls (K:Qb) (C:Addr):Prop where
 pg:PySem.W.plainGet K C Str.empty=true
 hd:PySem.W.hasDictIn K C=true
 po:PySem.W.plainOver K C=true
 sa:PySem.W.findIn K (.ref C) "__setattr__"=some (some (.builtin "object.__setattr__"))
theorem Cls.get {K:Qb}{C:Addr}(c:Cls K C) (f:Str):PySem.W.plainGet K C f=true:=c.pg
def NoAttr (K:Qb) (C:Addr) (f:Str):Prop:=PySem.W.findIn K (.ref C) f=some none
theorem NoAttr.taker {K:Qb}{C:Addr}{f:Str}(n:NoAttr K C f):PySem.W.takerIn K C f=some none:=by
 unfold PySem.W.takerIn
 rw [show PySem.W.findIn K (.ref C) f=some none from n]
 rfl
structure Con (K:Qb) (C:Addr) (f:Str) (v:V) (u:Value):Prop where
 at_:PySem.W.findIn K (.ref C) f=some (some u)
 rel:RelV v u
 get:PySem.W.specialIn K u "__get__"=some none
 cp:PySem.W.copiedNames.contains f=false
structure Meth (K:Qb) (C:Addr) (m:Str) (f:Addr):Prop where
 at_:PySem.W.findIn K (.ref C) m=some (some (.ref f))
 fn:PySem.W.isFn K (.ref f)=true
 kp:PySem.W.keepIn K (.ref f)=true
section
variable {X:Cx}{pins:List (Addr×Obj)}{Z:St}{H:Hp}{s:Shared}{a C dx:Addr}{fs:List (Str×V)}{f:Str}{v:V}{A:Around}{E:Value->Shared->Prop}
theorem qGL {b:Bool}{Q:Value->Shared->Prop}(I:Inv X pins Z H s) (e:H a=some (.ins C dx fs)) (c:Cls X.K C) (n:NoAttr X.K C f) (l:fs.lookup f=some v)
  (h:∀u s',Inv X pins Z H s'->RelV v u->Q u s'):wpAny (model X.prog X.w) A (getAttr (.ref a) f b) Q E s:=by
 obtain⟨mA,O,r,_,_,_⟩:=sO I.hok e
 obtain⟨u,hu,ru⟩:=RelO.some_of (v:=v) (o:=mA f) (by rw [<-l];exact r f)
 exact qNr I.kIn O (c.get f) c.hd n hu (qIa ru) (h u _ (I.tok _) ru)
theorem Bt {m:Str}{g:Addr}{pl:Sem Bool}{Q:Value×List Value->Shared->Prop}(I:Inv X pins Z H s) (e:H a=some (.ins C dx fs)) (c:Cls X.K C) (k:Meth X.K C m g) (l:fs.lookup m=none)
  (h:Q (.ref g,[.ref a]) s):wpAny (model X.prog X.w) A (getMethod (.ref a) m pl) Q E s:=by
 obtain⟨mA,O,r,_,_,_⟩:=sO I.hok e
 have hn:mA m=none:=RelO.none_of (by rw [<-l];exact r m)
 exact qKi I.kIn O (c.get m) k.at_ k.fn hn h
theorem qGx {y:V}{u:Value}{Q:Unit->Shared->Prop}(I:Inv X pins Z H s) (e:H a=some (.ins C dx fs)) (c:Cls X.K C) (n:NoAttr X.K C f) (hl:fs.length<1000) (ry:RelV y u)
  (h:∀s',Inv X pins Z (ay H a (.ins C dx (cB f y fs))) s'->Q () s'):wpAny (model X.prog X.w) A (setAttr (.ref a) f u) Q E s:=by
 obtain⟨mA,O,r,wi,_,ho⟩:=sO I.hok e
 have hz:(fs.map (·.1)).length<=sizeLine:=by rw [lr,sizeLine_eq];omega
 refine qMz I.kIn O c.sa c.po n.taker c.hd wi hz λh' O' sb=>h _ ?_
 have hd:∃o,h'.get? dx=some o:=let ⟨o,_,_,e',_⟩:=O'.ns;⟨o,e'⟩
 refine I.write (x:=a) (e:=dx) (by rw [e];exact True.intro) (.inr ho) (λb q hb z=>(sb.2 b hb).trans z) hd ?_
 refine⟨by rw [aD O.ne];exact ho,?_,O.ne,O'.obj,_,O'.ns,λg=>?_,λg hg=>?_⟩
 ·have:=BF f y fs;omega
 ·show RelO ((cB f y fs).lookup g) (if g=f then some u else mA g)
  rw [pQ]
  by_cases q:g=f
  ·rw [Ql q,Ql q];exact ry
  ·rw [Qm q,Qm q];exact r g
 ·by_cases q:g=f
  ·rw [q];exact (tS f y fs).1
  ·refine (tS f y fs).2 g (wi g λz=>hg ?_)
   show (if g=f then some u else mA g)=none
   rw [Qm q];exact z
theorem Inv.made (I:Inv X pins Z H s):Inv X pins Z (ay (ay H s.heap.objs.size (.own (s.heap.objs.size+1))) (s.heap.objs.size+1) (.ins C s.heap.objs.size []))
  { s with heap:=(s.heap.push PySem.W.emptyDict).push (PySem.W.instObj C s.heap.objs.size) }:=by
 have e1:(s.heap.push PySem.W.emptyDict).get? s.heap.objs.size=some PySem.W.emptyDict:=Qh s.heap rfl
 have e2:((s.heap.push PySem.W.emptyDict).push (PySem.W.instObj C s.heap.objs.size)).get? (s.heap.objs.size+1)=some (PySem.W.instObj C s.heap.objs.size):=by
  have:=Qh (s.heap.push PySem.W.emptyDict) (o:=PySem.W.instObj C s.heap.objs.size) rfl
  rwa [Heap.size_push] at this
 have e3:(s.heap.push PySem.W.emptyDict).Ns s.heap.objs.size (λ_=>none):=⟨PySem.W.emptyDict,#[],_,e1,rfl,(λe he=>Qn he (by simp)),λ_=>rfl⟩
 have I1:=I.laid (a:=s.heap.objs.size) (o:=.own (s.heap.objs.size+1)) (h':=s.heap.push PySem.W.emptyDict) (t':=s.toks) (λb u q=>Qg _ q) (aK _) ⟨_,e1⟩
 refine I1.laid (a:=s.heap.objs.size+1) (o:=.ins C s.heap.objs.size []) (t':=s.toks) (λb u q=>Qg _ q) (Nat.le_of_eq (Heap.size_push _ _)) ?_
 have ne:s.heap.objs.size≠s.heap.objs.size+1:=bR (qO _)
 refine⟨by rw [aD ne,cD],jN _,ne,e2,λ_=>none,(Heap.Ns1.of_empty e3).at λo q=>Qg _ q,λ_=>True.intro,λy hy=>Qn rfl hy⟩
theorem qNS {prog:Program}{w:World}{env:Env}{e:Expr}{f:Str}{pos:Pos}{s:Shared}{Q:Value->Shared->Prop}(hb:attributeBase e f env (eval e env)=eval e env)
  (h:wpAny (model prog w) A (eval e env) (λo s₁=>wpAny (model prog w) A (getAttr o f true) Q E s₁) E s):wpAny (model prog w) A (eval (.Attribute e f pos) env) Q E s:=
 Attribute_any_ h (by rw [arm_eval_Attribute,hb])
end
def qTJ (K:Qb) (ta:TE) (f:Str):TE:=fun Z H Q=>ta Z H λx H1=>∃a C dx fs v,x=.ref a/\H1 a=some (.ins C dx fs)/\Cls K C/\NoAttr K C f/\fs.lookup f=some v/\Q v H1
def qTP (K:Qb) (ta tv:TE) (f:Str):TS:=λD Z H=>tv Z H λy H1=>ta Z H1 λx H2=>∃a C dx fs,x=.ref a/\H2 a=some (.ins C dx fs)/\Cls K C/\NoAttr K C f/\fs.length<1000 /\
 D.nx Z (ay H2 a (.ins C dx (cB f y fs)))
section
variable {X:Cx}{o e value:Expr}{f:Str}{pos pos' tpos:Pos}{ta tv:TE}
theorem qO9 (he:PE X e ta) (hb:attributeBase e f X.env (eval e X.env)=eval e X.env):PE X (.Attribute e f pos) (qTJ X.K ta f):=by
 intro pins s Z H Q I h
 refine qNS hb (aB (he pins s Z H _ I h) λu s1 ⟨x,H1,I1,rx,a,C,dx,fs,v,ex,ea,c,n,l,q⟩=>?_)
 subst ex
 obtain rfl:u=Value.ref a:=rx
 exact qGL I1 ea c n l λu' s2 I2 ru=>⟨v,H1,I2,ru,q⟩
theorem qOV (ha:PE X o ta) (hv:PE X value tv) (hs:swapsWith value (some (.Attribute o f pos')) pos.line X.env=pure false):PS X (.Assign [.Attribute o f pos'] value pos) (qTP X.K ta tv f):=by
 intro pins s Z H D I h
 refine plainObj_wpAny_Assign_Attribute (aB (hv pins s Z H _ I h) λu s1 ⟨y,H1,I1,ry,q⟩=>aB (ha pins s1 Z H1 _ I1 q) λov s2 ⟨x,H2,I2,rx,a,C,dx,fs,ex,ea,c,n,l,q2⟩=>?_) hs
 subst ex
 obtain rfl:ov=Value.ref a:=rx
 exact qGx I2 ea c n l ry λs3 I3=>⟨Z,_,I3,q2⟩
end
section
variable {X:Cx}{pins:List (Addr×Obj)}{Z:St}{H:Hp}{s:Shared}{A:Around}{E:Value->Shared->Prop}{Q:Value->Shared->Prop}{c:Value}{b:Bool}
inductive TyOf (K:Qb) (H:Hp):V->Value->Prop where
 | non:TyOf K H .non (.type "NoneType")
 | bl (x:Bool):TyOf K H (.bl x) (.type "bool")
 | int (i:Int):TyOf K H (.int i) (.type "int")
 | str (x:Str):TyOf K H (.str x) (.type "str")
 | flt (x:UInt64):TyOf K H (.flt x) (.type "float")
 | lst {a:Addr} {xs:List V} (e:H a=some (.lst xs)):TyOf K H (.ref a) (.type "list")
 | frz {a:Addr} {o:Obj} {xs:List V} (e:H a=some (.frz o (.lst xs))):TyOf K H (.ref a) (.type "list")
 | tup {a:Addr} {xs:List V} (e:H a=some (.tup xs)):TyOf K H (.ref a) (.type "tuple")
 | dK {a:Addr} {kvs:List (cN×V)} (e:H a=some (.dK kvs)):TyOf K H (.ref a) (.type "dict")
 | dT {a:Addr} {kvs:List (List cN×V)} (e:H a=some (.dT kvs)):TyOf K H (.ref a) (.type "dict")
 | ins {a C dx:Addr} {fs:List (Str×V)} (e:H a=some (.ins C dx fs)) (cl:Cls K C) (ha:PySem.W.findIn K (.ref C) "__class__"=some (some (.builtin "object.__class__")))
   (hn:PySem.W.specialIn K (.builtin "object.__class__") "__get__"=some (some (.builtin "getset_descriptor.__get__"))) (htk:PySem.W.takesIn K (.builtin "object.__class__")=some true)
   (hm:PySem.W.mroIn K C (.type "object")=some true):TyOf K H (.ref a) (.ref C)
end
end L2
namespace L2
open PySem PySem.Spec PyProof.Rows
structure Room (k:Nat) (A:Around):Prop where
 hd:A.handled=none
 dp:A.depth+3 * k+5<recursionLimit
 un:A.units+16 * k+200<cLine
theorem Room.mono {j k:Nat}{A:Around}(r:Room k A) (h:j<=k):Room j A:=⟨r.hd,by have:=r.dp;omega,by have:=r.un;omega⟩
theorem Room.deeper {k:Nat}{A:Around}(r:Room (k+1) A) (env:Env):Room k (A.deeper env):=
 ⟨r.hd,by have:=r.dp;show A.depth+1+3 * k+5<_;omega,by have:=r.un;show A.units+3+16 * k+200<_;omega⟩
theorem qGG {A:Around}{C:Addr}{us:List Value}{kw:List (Str×Value)}:(A.under (.builtin "type.__call__" ⟨.ref C::us,kw⟩)).depth=A.depth+1:=by
 first|rfl|simp [Around.under,Code.weight,Code.isCreation,Code.isGuard,Code.isCaller,Code.frames,Code.isFrame,guardIds]
theorem qGF {A:Around}{C:Addr}{us:List Value}{kw:List (Str×Value)}:(A.under (.builtin "type.__call__" ⟨.ref C::us,kw⟩)).units=A.units+1:=by
 first|rfl|simp [Around.under,Code.cUnits,Code.frames,Code.isFrame]
theorem Room.make {k:Nat}{A:Around}(r:Room (k+1) A) (C:Addr) (us:List Value) (kw:List (Str×Value)):Room k (A.under (.builtin "type.__call__" ⟨.ref C::us,kw⟩)):=
 ⟨r.hd,by have:=r.dp;rw [qGG];omega,by have:=r.un;rw [qGF];omega⟩
theorem Room.depth {k:Nat}{A:Around}(r:Room k A):A.depth<recursionLimit:=by have:=r.dp;omega
theorem Room.units {k:Nat}{A:Around}(r:Room k A):A.units+64<cLine:=by have:=r.un;omega
noncomputable def rp:TA:=λ_ H Q=>Q [] H
noncomputable def qRz (ta:TE) (tr:TA):TA:=fun Z H Q=>ta Z H λx H1=>tr Z H1 λxs H2=>Q (x::xs) H2
section
variable {X:Cx}{e:Expr}{es:List Expr}{te:TE}{t:TA}{pos:Pos}
theorem gS:PA X [] rp:=λ_ _ _ _ H Q I h=>Calls.spliced_nil ⟨[],H,I,.nil,h⟩
theorem fw (ha:PE X e te) (hr:PA X es t) (hs:starEach (e::es) X.env=(false,eval e X.env)::starEach es X.env:=by rfl):PA X (e::es) (qRz te t):=by
 intro pos pins s Z H Q I h
 rw [hs]
 show wpAny _ _ (spliced ((false,eval e X.env)::backTo pos (starEach es X.env))) _ _ s
 refine Calls.spliced_cons (aB (ha pins s Z H _ I h) λu s1 ⟨x,H1,I1,r1,q1⟩=>?_)
 exact aB (hr pos pins s1 Z H1 _ I1 q1) λus s2 ⟨xs,H2,I2,r2,q2⟩=>⟨x::xs,H2,I2,.cons r1 r2,q2⟩
def qTB (t:TA):TE:=fun Z H Q=>t Z H λxs H1=>xs.length<=sizeLine/\∀p,H1 p=none->Q (.ref p) (ay H1 p (.tup xs))
def qTG (t:TA):TE:=fun Z H Q=>t Z H λxs H1=>xs.length<=sizeLine/\∀p,H1 p=none->Q (.ref p) (ay H1 p (.lst xs))
theorem qO1 {x1}(h:PA X es t):PE X (.Tuple es x1 pos) (qTB t):=by
 intro pins s Z H Q I hq
 refine wpAny_Tuple_spliced (aB (h pos pins s Z H _ I hq) λus s1 ⟨xs,H1,I1,r,z,q⟩=>⟨by rw [<-r.length];exact z,?_⟩)
 have hf:H1 s1.heap.objs.size=none:=I1.hok.fresh (aK _)
 refine⟨.ref s1.heap.objs.size,ay H1 s1.heap.objs.size (.tup xs),I1.laid (t':=s1.toks) (λb u e=>Qg _ e) (aK _) ?_,rfl,q _ hf⟩
 exact⟨z,us,r,⟨_,Qh _ rfl,rfl,_,rfl⟩⟩
theorem qO6 (h:PA X es t):PE X (.List es pos) (qTG t):=by
 intro pins s Z H Q I hq
 refine wpAny_List_spliced (aB (h pos pins s Z H _ I hq) λus s1 ⟨xs,H1,I1,r,z,q⟩=>⟨by rw [<-r.length];exact z,?_⟩)
 have hf:H1 s1.heap.objs.size=none:=I1.hok.fresh (aK _)
 refine⟨.ref s1.heap.objs.size,ay H1 s1.heap.objs.size (.lst xs),I1.laid (t':=s1.toks) (λb u e=>Qg _ e) (aK _) ?_,rfl,q _ hf⟩
 exact⟨z,us,0,r,Qh _ rfl⟩
end
abbrev Sp:=List V->Hp->VK->XK->Prop
abbrev f7:=List Env->Hp->Shared->XK->Value->Shared->Prop
structure Env0 (P:Program) (w:World) (K:Qb) (mg:Str->Option Value) (base:Heap) (A:Around) (outer:List Env) (s:Shared) (H:Hp):Prop where
 frames:A.frames=some outer
 mod:Mod K mg base
 bs:∀b o,base.get? b=some o->s.heap.get? b=some o/\H b=none
 bsz:base.objs.size<=s.heap.objs.size
 funs:s.heap.FunFrames base outer
 frf:∀b∈eQ outer,H b=none
 hok:HOk P w H s.heap
 bare:AllBare s.gens
def CE (outer:List Env) (P:Program) (w:World) (H:Hp) (s:Shared) (Q:VK) (u:Value) (s':Shared):Prop:=
 ∃v H',s'.os=s.os/\AllBare s'.gens/\Un (eQ outer) [] H H' s.heap s'.heap/\HOk P w H' s'.heap/\RelV v u/\Q v H'
def CR (CX:f7) (outer:List Env) (P:Program) (w:World) (H:Hp) (s:Shared) (Q:VK) (E:XK) (r:Result) (s':Shared):Prop:=
 match r with
 | .ok (.ret u)=>CE outer P w H s Q u s'
 | .ok _=>False
 | .error e=>CX outer H s E e s'
structure FnOk (P:Program) (w:World) (K:Qb) (mg:Str->Option Value) (base:Heap) (CX:f7) (k:Nat) (f:Addr) (fd:FuncData) (ps:List Str) (sp:Sp):Prop where
 len:∀vs H Q E,sp vs H Q E->vs.length=ps.length
 run:∀(A:Around) (outer:List Env) (s:Shared) (H:Hp) (args:Args) (us:List Value) (vs:List V) (Q:VK) (E:XK),Room k A->Env0 P w K mg base A outer s H->BindsTo s fd args (ps.zip us)->Vals vs us->sp vs H Q E ->
  codeAny (model P w) A (.call (.ref f) args) (CR CX outer P w H s Q E) s
theorem Env0.make {P:Program}{w:World}{K:Qb}{mg:Str->Option Value}{base:Heap}{A:Around}{outer:List Env}{s:Shared}{H:Hp}(e:Env0 P w K mg base A outer s H) (C:Addr) (us:List Value) (kw:List (Str×Value)) :
  Env0 P w K mg base (A.under (.builtin "type.__call__" ⟨.ref C::us,kw⟩)) outer s H:=⟨by first|exact e.frames|(simpa [Around.under,Code.envs,Code.isFrame,pushEnvs] using e.frames),e.mod,e.bs,e.bsz,e.funs,e.frf,e.hok,e.bare⟩
section
variable {X:Cx}{pins:List (Addr×Obj)}{Z:St}{H:Hp}{s s':Shared}
theorem Inv.env0 (I:Inv X pins Z H s):Env0 X.prog X.w X.K X.mg X.base X.A X.stack s H:=
 ⟨I.ok.frames,I.ok.mod,I.bs,dM I.ok.bsz I.sz,I.stack,I.stkFree,I.hok,I.bare⟩
theorem Inv.after {Q:VK}{u:Value}(I:Inv X pins Z H s) (h:CE X.stack X.prog X.w H s Q u s'):EP X pins Z Q u s':=by
 obtain⟨v,H',os,bare,un,hok,r,q⟩:=h
 obtain⟨hh,g,d,t,os'⟩:=s'
 obtain rfl:os'=s.os:=os
 exact⟨v,H',I.call (h':=hh) (g':=g) (d':=d) (t':=t) (ch:=[]) un hok bare (λb z=>Qn z (by simp)),r,q⟩
end
def qRA (sp:Sp) (dvs:List V) (E:XK) (t:TA):TE:=fun Z H Q=>t Z H λvs H1=>sp (vs++dvs) H1 Q E
def xU (C:Addr) (m:Str) (sp:Sp) (dvs:List V) (E:XK) (ta:TE) (t:TA):TE:=fun Z H Q=>ta Z H λx H1=>∃a dx fs,x=.ref a/\H1 a=some (.ins C dx fs)/\fs.lookup m=none /\
 t Z H1 λvs H2=>sp (x::(vs++dvs)) H2 Q E
def xT (C:Addr) (sp:Sp) (dvs:List V) (E:XK) (t:TA):TE:=fun Z H Q=>t Z H λvs H1=>∀x dx,H1 x=none->H1 dx=none->dx≠x ->
 sp (.ref x::(vs++dvs)) (ay (ay H1 dx (.own x)) x (.ins C dx [])) (λv H2=>v=.non/\Q (.ref x) H2) E
def Binds (K:Qb) (fd:FuncData) (ps:List Str) (ds:List Value):Prop:=
 ∀(s:Shared) (us:List Value),K.In s.heap->(us++ds).length=ps.length->BindsTo s fd ⟨us,[]⟩ (ps.zip (us++ds))
theorem Binds.all {K:Qb}{fd:FuncData}{ps:List Str}(h:∀us:List Value,us.length=ps.length->bindArgs fd ⟨us,[]⟩=pure (ps.zip us)):Binds K fd ps []:=λs us _ hl=>by
 rw [iX] at hl ⊢
 exact .of_eq (h us hl)
def iJ (CX:f7) (X:Cx) (E:XK):Prop:=∀(pins:List (Addr×Obj)) (Z:St) (H:Hp) (s:Shared) (e:Value) (s':Shared),Inv X pins Z H s->CX X.stack H s E e s'->X.xe e s'
section
variable {X:Cx}{CX:f7}{k:Nat}{f C:Addr}{fd:FuncData}{ps:List Str}{sp:Sp}{dvs:List V}{ds:List Value}{E:XK}{x m:Str}{p pos apos:Pos}{e o:Expr}{es:List Expr}{ta:TE}{t:TA}
theorem rQ {pins:List (Addr×Obj)}{Z:St}{H:Hp}{s:Shared}{Q:VK}{us:List Value}{vs:List V}(F:FnOk X.prog X.w X.K X.mg X.base CX k f fd ps sp) (hr:Room k X.A) (hb:Binds X.K fd ps ds) (hd:Vals dvs ds) (hx:iJ CX X E)
  (I:Inv X pins Z H s) (r:Vals vs us) (h:sp (vs++dvs) H Q E):wpAny (model X.prog X.w) X.A (call (.ref f) us) (EP X pins Z Q) X.xe s:=by
 have r2:Vals (vs++dvs) (us++ds):=r.append hd
 have hl:(us++ds).length=ps.length:=by rw [<-r2.length];exact F.len _ _ _ _ h
 refine wpAny_call (codeAny_mono (F.run X.A X.stack s H ⟨us,[]⟩ (us++ds) (vs++dvs) Q E hr I.env0 (hb s us I.kIn hl) r2 h) λr s' hq=>?_)
 cases r with
 | error e=>exact hx pins Z H s e s' I hq
 | ok fl =>
  cases fl with
  | ret u=>exact I.after hq
  | next=>exact False.elim hq
  | brk=>exact False.elim hq
  | cont=>exact False.elim hq
theorem zN (F:FnOk X.prog X.w X.K X.mg X.base CX k f fd ps sp) (hr:Room k X.A) (hg:Gl X x) (hm:X.mg x=some (.ref f)) (hk:PySem.W.keepIn X.K (.ref f)=true) (hb:Binds X.K fd ps ds) (hd:Vals dvs ds) (hx:iJ CX X E)
  (ha:PA X (e::es) t) (hdb:(x == ("__debug__":Str))=false:=by decide) (he:starEach (e::es) X.env=(false,eval e X.env)::starEach es X.env:=by rfl) (hpl:(backTo pos (starEach es X.env)).any (·.1)=false:=by rfl) :
  PE X (.Call (.Name x p) (e::es) [] pos) (qRA sp dvs E t):=by
 intro pins s Z H Q I h
 refine wpAny_Call_Name_kw (kL I hg hm ?_ hdb)
 refine nK (h₀:=X.base) I.ok.mod.kin hk (aB (ha pos pins s Z H _ I h) λus s1 ⟨vs,H1,I1,r,q⟩=>⟨I1.kIn,?_⟩) he hpl
 exact rQ F hr hb hd hx I1 r q
theorem qMP {pl:Sem Bool}(he:PE X o ta) (c:Cls X.K C) (hm:Meth X.K C m f) (F:FnOk X.prog X.w X.K X.mg X.base CX k f fd ps sp) (hr:Room k X.A) (hb:Binds X.K fd ps ds) (hd:Vals dvs ds) (hx:iJ CX X E) (ha:PA X (e::es) t)
  (hst:starEach (e::es) X.env=(false,eval e X.env)::starEach es X.env:=by rfl) (hpl:(backTo pos (starEach es X.env)).any (·.1)=false:=by rfl)
  (ht:eval (.Call (.Attribute o m apos) (e::es) [] pos) X.env=(do
   let ov <-eval o X.env
   standAt apos.atName
   let (f,first) <-holding [ov] (getMethod ov m pl)
   callWith pos f first (backTo pos (starEach (e::es) X.env)) (backToKw pos (keywordEach [] X.env))):=by rfl) :
  PE X (.Call (.Attribute o m apos) (e::es) [] pos) (xU C m sp dvs E ta t):=by
 intro pins s Z H Q I h
 refine PySem.W.methodCall_KW (pl:=pl) (aB (he pins s Z H _ I h) λu s1 ⟨x,H1,I1,rx,a,dx,fs,ex,ea,l,q⟩=>?_) ht
 subst ex
 obtain rfl:u=Value.ref a:=rx
 refine Bt I1 ea c hm l ?_
 refine nK (first:=[.ref a]) (h₀:=X.base) I.ok.mod.kin hm.kp (aB (ha pos pins s1 Z H1 _ I1 q) λus s2 ⟨vs,H2,I2,r,q2⟩=>⟨I2.kIn,?_⟩) hst hpl
 exact rQ (us:=.ref a::us) (vs:=.ref a::vs) F hr hb hd hx I2 (.cons rfl r) q2
theorem qJO {pl:Sem Bool}(he:PE X o ta) (c:Cls X.K C) (hm:Meth X.K C m f) (F:FnOk X.prog X.w X.K X.mg X.base CX k f fd ps sp) (hr:Room k X.A) (hb:Binds X.K fd ps ds) (hd:Vals dvs ds) (hx:iJ CX X E)
  (ht:eval (.Call (.Attribute o m apos) [] [] pos) X.env=(do
   let ov <-eval o X.env
   standAt apos.atName
   let (f,first) <-holding [ov] (getMethod ov m pl)
   callWith pos f first (backTo pos (starEach [] X.env)) (backToKw pos (keywordEach [] X.env))):=by rfl) :
  PE X (.Call (.Attribute o m apos) [] [] pos) (xU C m sp dvs E ta rp):=by
 intro pins s Z H Q I h
 refine PySem.W.methodCall_KW (pl:=pl) (aB (he pins s Z H _ I h) λu s1 ⟨x,H1,I1,rx,a,dx,fs,ex,ea,l,q⟩=>?_) ht
 subst ex
 obtain rfl:u=Value.ref a:=rx
 refine Bt I1 ea c hm l ?_
 exact qv (first:=[.ref a]) I1.kIn hm.kp (rQ (us:=[.ref a]) (vs:=[.ref a]) F hr hb hd hx I1 (.cons rfl .nil) q)
structure Mk (K:Qb) (C f:Addr):Prop where
 makes:PySem.W.makesIn K C=true
 init:PySem.W.findIn K (.ref C) "__init__"=some (some (.ref f))
 fn:PySem.W.isFn K (.ref f)=true
 kp:PySem.W.keepIn K (.ref C)=true
theorem AM {pins:List (Addr×Obj)}{Z:St}{H:Hp}{s:Shared}{Q:VK}{us:List Value}{vs:List V}(M:Mk X.K C f) (F:FnOk X.prog X.w X.K X.mg X.base CX k f fd ps sp) (hr:Room (k+1) X.A) (hb:Binds X.K fd ps ds) (hd:Vals dvs ds)
  (hx:iJ CX X E) (I:Inv X pins Z H s) (r:Vals vs us)
  (h:∀x dx,H x=none->H dx=none->dx≠x->sp (.ref x::(vs++dvs)) (ay (ay H dx (.own x)) x (.ins C dx [])) (λv H2=>v=.non/\Q (.ref x) H2) E) :
  wpAny (model X.prog X.w) X.A (call (.ref C) us) (EP X pins Z Q) X.xe s:=by
 have hq:=h (s.heap.objs.size+1) s.heap.objs.size (I.hok.fresh (Nat.le_succ _)) (I.hok.fresh (aK _)) (bR (qO _))
 have I2:=Inv.made (C:=C) I
 have r2:Vals (V.ref (s.heap.objs.size+1)::(vs++dvs)) (Value.ref (s.heap.objs.size+1)::(us++ds)):=.cons rfl (r.append hd)
 have hl:(Value.ref (s.heap.objs.size+1)::us++ds).length=ps.length:=by
  have e:=r2.length
  rw [F.len _ _ _ _ hq] at e
  exact e.symm
 refine wpAny_call (qJ7 (f:=f) I.kIn M.makes M.init (beq_iff_eq.mp M.fn) (codeAny_mono (F.run _ X.stack _ _ ⟨Value.ref (s.heap.objs.size+1)::us,[]⟩ (Value.ref (s.heap.objs.size+1)::(us++ds)) _ _ E (hr.make C us [])
  (I2.env0.make C us []) (hb _ (Value.ref (s.heap.objs.size+1)::us) I2.kIn hl) r2 hq) λr s' hq'=>?_))
 cases r with
 | error e=>exact hx pins Z _ _ e s' I2 hq'
 | ok fl =>
  cases fl with
  | ret u =>
   obtain⟨v,H',I3,rv,ev,q3⟩:=I2.after hq'
   subst ev
   exact⟨rv,⟨V.ref (s.heap.objs.size+1),H',I3,rfl,q3⟩⟩
  | next=>exact False.elim hq'
  | brk=>exact False.elim hq'
  | cont=>exact False.elim hq'
theorem qMQ (M:Mk X.K C f) (F:FnOk X.prog X.w X.K X.mg X.base CX k f fd ps sp) (hr:Room (k+1) X.A) (hg:Gl X x) (hm:X.mg x=some (.ref C)) (hb:Binds X.K fd ps ds) (hd:Vals dvs ds) (hx:iJ CX X E)
  (ha:PA X (e::es) t) (hdb:(x == ("__debug__":Str))=false:=by decide) (he:starEach (e::es) X.env=(false,eval e X.env)::starEach es X.env:=by rfl) (hpl:(backTo pos (starEach es X.env)).any (·.1)=false:=by rfl) :
  PE X (.Call (.Name x p) (e::es) [] pos) (xT C sp dvs E t):=by
 intro pins s Z H Q I h
 refine wpAny_Call_Name_kw (kL I hg hm ?_ hdb)
 refine nK (h₀:=X.base) I.ok.mod.kin M.kp (aB (ha pos pins s Z H _ I h) λus s1 ⟨vs,H1,I1,r,q⟩=>⟨I1.kIn,?_⟩) he hpl
 exact AM M F hr hb hd hx I1 r q
theorem qJQ (M:Mk X.K C f) (F:FnOk X.prog X.w X.K X.mg X.base CX k f fd ps sp) (hr:Room (k+1) X.A) (hg:Gl X x) (hm:X.mg x=some (.ref C)) (hb:Binds X.K fd ps ds) (hd:Vals dvs ds) (hx:iJ CX X E)
  (hdb:(x == ("__debug__":Str))=false:=by decide):PE X (.Call (.Name x p) [] [] pos) (xT C sp dvs E rp):=by
 intro pins s Z H Q I h
 refine wpAny_Call_Name_kw (kL I hg hm ?_ hdb)
 exact qv I.kIn M.kp (AM (us:=[]) M F hr hb hd hx I .nil h)
end
section
variable {X:Cx}{CX:f7}{k:Nat}{f C:Addr}{fd:FuncData}{ps ks:List Str}{sp:Sp}{E:XK}{x m:Str}{p pos apos kpos:Pos}{e o:Expr}{es:List Expr}{kws:List Keyword}{te ta:TE}{t tk:TA}{nm:Option Str}
structure KBinds (K:Qb) (fd:FuncData) (ps ks:List Str) (g:List Value->List Value->List Value) (gV:List V->List V->List V):Prop where
 to:∀(s:Shared) (us ws:List Value),K.In s.heap->(g us ws).length=ps.length->BindsTo s fd ⟨us,ks.zip ws⟩ (ps.zip (g us ws))
 rel:∀{vs:List V} {us:List Value} {zs:List V} {ws:List Value},Vals vs us->Vals zs ws->Vals (gV vs zs) (g us ws)
variable {g:List Value->List Value->List Value}{gV:List V->List V->List V}
end
structure FnScope (N P:List Str) (sc:Scope):Prop where
 kind:sc.kind=.function
 co:sc.isCoroutine=false
 gen:sc.isGenerator=false
 nd:N.Nodup
 pre:N.take P.length=P
 par:∀x∈P,sc.names.lookup x=some .local∨sc.names.lookup x=some .cell
 nofree:∀y∈sc.names,y.2≠.free
theorem Bn {kindOf:Str->Option NameKind}{x:Str}:∀{binds:List (Str×Value)}{m:Str->Option Value},(∀v,(x,v)∉binds)->bindL kindOf binds m x=m x
 | [],_,_=>rfl
 | (n,v)::r,m,h=>by
  unfold bindL
  rw [Bn λw hw=>h w (dq _ hw)]
  split
  ·have:x≠n:=by rintro rfl;exact h v dF
   simp [this]
  ·rfl
theorem Bl {kindOf:Str->Option NameKind}{x:Str}:∀{binds:List (Str×Value)}{m:Str->Option Value},(∀v,(x,v)∉binds)->bindC kindOf binds m x=m x
 | [],_,_=>rfl
 | (n,v)::r,m,h=>by
  unfold bindC
  rw [Bl λw hw=>h w (dq _ hw)]
  split
  ·rfl
  ·have:x≠n:=by rintro rfl;exact h v dF
   simp [this]
theorem Bm {kindOf:Str->Option NameKind}{x:Str}{v:Value}:∀{P:List Str}{vs:List Value}{i:Nat}{m:Str->Option Value},P.Nodup->P[i]?=some x->vs[i]?=some v->kindOf x=some .local ->
  bindL kindOf (P.zip vs) m x=some v
 | [],_,_,_,_,h,_,_=>by simp at h
 | _::_,[],_,_,_,_,h,_=>by simp at h
 | p::P,w::vs,0,m,nd,h1,h2,hk=>by
  simp at h1 h2;subst h1;subst h2
  show bindL kindOf ((p,w)::P.zip vs) m p=_
  unfold bindL
  rw [Bn λv hv=>(yaU.mp nd).1 (qM hv).1,Ql hk]
  simp
 | p::P,w::vs,i+1,m,nd,h1,h2,hk=>by
  show bindL kindOf ((p,w)::P.zip vs) m x=_
  unfold bindL
  exact Bm (i:=i) (yaU.mp nd).2 (by simpa using h1) (by simpa using h2) hk
theorem Bk {kindOf:Str->Option NameKind}{x:Str}{v:Value}:∀{P:List Str}{vs:List Value}{i:Nat}{m:Str->Option Value},P.Nodup->P[i]?=some x->vs[i]?=some v->kindOf x≠some .local ->
  bindC kindOf (P.zip vs) m x=some v
 | [],_,_,_,_,h,_,_=>by simp at h
 | _::_,[],_,_,_,_,h,_=>by simp at h
 | p::P,w::vs,0,m,nd,h1,h2,hk=>by
  simp at h1 h2;subst h1;subst h2
  show bindC kindOf ((p,w)::P.zip vs) m p=_
  unfold bindC
  rw [Bl λv hv=>(yaU.mp nd).1 (qM hv).1,Qm hk]
  simp
 | p::P,w::vs,i+1,m,nd,h1,h2,hk=>by
  show bindC kindOf ((p,w)::P.zip vs) m x=_
  unfold bindC
  exact Bk (i:=i) (yaU.mp nd).2 (by simpa using h1) (by simpa using h2) hk
noncomputable def start (N:List Str) (vs:List V):St:=vs.map some++List.replicate (N.length - vs.length) none
def gI (CX:f7) (P:Program) (w:World) (K:Qb) (mg:Str->Option Value) (base:Heap) (N:List Str) (qual:Str) (scope:Scope) (f:Addr) (cd:Value) (A:Around) (outer:List Env) (s:Shared) (H:Hp) (E:XK):Cx where
 prog:=P
 w:=w
 K:=K
 mg:=mg
 base:=base
 A:=A.deeper (envOfC qual scope s.heap.objs.size f cd)
 N:=N
 s₀:=s
 H₀:=H
 env:=envOfC qual scope s.heap.objs.size f cd
 outer:=outer
 stack:=envOfC qual scope s.heap.objs.size f cd::outer
 ex:=[]
 calm:=true
 fn:=λ_=>true
 pn:=[]
 xe:=λe s'=>wpAny (model P w) (A.deeper (envOfC qual scope s.heap.objs.size f cd)) (leaving (envOfC qual scope s.heap.objs.size f cd) e) (λ_ s''=>CX outer H s E e s'') (λe' s''=>CX outer H s E e' s'') s'
theorem Af {sc:Scope}{n:Nat}{x:Str}(h:sc.names.lookup x=some .cell):∃c,(cellsFrom n sc.names []).lookup x=some c:=by
 have q:=PySem.W.cellsFrom_some sc.names n [] (.inl h)
 exact Option.isSome_iff_exists.mp q
theorem qH6 {CX:f7}{P:Program}{w:World}{K:Qb}{mg:Str->Option Value}{base:Heap}{N ps:List Str}{qual:Str}{scope:Scope}{f:Addr}{cd:Value}{A:Around}{outer:List Env}{s s1:Shared}{H:Hp}{E:XK}{us:List Value}{vs:List V}
  (S:FnScope N ps scope) (hd:A.handled=none) (e0:Env0 P w K mg base A outer s H) (hl:vs.length=ps.length) (r:Vals vs us)
  (x:InCallC s s.heap.objs.size (bindL (envOfC qual scope s.heap.objs.size f cd).kindOf (ps.zip us) λ_=>none) (cellsFrom (s.heap.objs.size+1) scope.names []) (bindC (envOfC qual scope s.heap.objs.size f cd).kindOf (ps.zip us) λ_=>none) s1) :
  Inv (gI CX P w K mg base N qual scope f cd A outer s H E) [] (start N vs) H s1:=by
 have hpl:ps.length<=N.length:=by have:=congrArg List.length S.pre;rw [qN] at this;omega
 obtain⟨h1,tk,rfl,hk⟩:=x.done
 have noA:∀b:Addr,b∉(gI CX P w K mg base N qual scope f cd A outer s H E).ex:=λb z=>Qn (show b∈([]:List Addr) from z) (by simp)
 refine⟨⟨e0.mod,S.kind,rfl,rfl,aK _,λy z c h1 h2=>?_,λy hy=>?_,λy c _ h=>?_,λ_=>hd,Around.frames_deeper e0.frames,.inr ⟨rfl,rfl⟩,λb z=>Qn z (noA b),e0.bs,e0.bsz,λb _ _=>noA b,λb z=>Qn z (noA b),e0.funs,e0.frf⟩,
  rfl,e0.bare,Un.kept hk,⟨_,x.toInCall.ns,λi y v h1 h2 h3=>?_⟩,λy c h=>⟨_,x.cell y c h⟩,e0.hok.fresh (aK _),λy c h=>?_,λp hp=>Qn (show p∈([]:List (Addr×Obj)) from hp) (by simp),e0.hok.kept hk,?_⟩
 ·exact name_of_addr x.apart (dj h1) (dj h2)
 ·have hy:scope.names.lookup y=some .cell∨scope.names.lookup y=some .free:=hy
  rcases hy with hy|hy
  ·exact Af hy
  ·exact Qn rfl (S.nofree _ (dj hy))
 ·exact nQ (x.above y c (dj h))
 ·have hi:i<vs.length:=by
   unfold start at h2
   by_cases hi:i<vs.length
   ·exact hi
   ·rw [jR (by simpa using hi)] at h2
    rw [jX] at h2
    split at h2<;>cases h2
  have ha:vs[i]?=some v:=by
   unfold start at h2
   rw [lB (by simpa using hi),gE] at h2
   cases e:vs[i]? with
   | none=>rw [e] at h2;cases h2
   | some a=>rw [e] at h2;cases h2;rfl
  obtain⟨u,hu,rv⟩:=r.get ha
  have hp:ps[i]?=some y:=by
   rw [<-S.pre,List.getElem?_take_of_lt (by omega)];exact h1
  have ndP:ps.Nodup:=by rw [<-S.pre];exact S.nd.sublist (List.take_sublist _ _)
  refine⟨u,rv,?_⟩
  rcases S.par y (jV hp) with k|k
  ·exact .inl ⟨k,Bm ndP hp hu k⟩
  ·obtain⟨c,e⟩:=Af (n:=s.heap.objs.size+1) k
   refine .inr ⟨.inl k,c,e,?_⟩
   have q:=x.cell y c e
   rw [Bk ndP hp hu (by show scope.names.lookup y≠_;rw [k];decide)] at q
   exact q
 ·exact e0.hok.fresh (nQ (x.above y c (dj h)))
 ·unfold start
  show _=N.length
  rw [ik,lr,qC]
  omega
theorem xP {CX:f7}{P:Program}{w:World}{K:Qb}{mg:Str->Option Value}{base:Heap}{k:Nat}{f:Addr}{name qual:Str}{params:Arguments}{body:List Stmt}{scope:Scope}{dV kV doc pm cdv ct oc:Value}{an od:Option Addr}
  {osl:Array (Option Value)} {N ps:List Str} {sp:Sp} (lk:K.lookup f=some ⟨oc,od,.func (PySem.W.fnOf name qual params body scope dV kV doc pm an cdv ct),osl⟩) (hcd:PySem.W.codeIn K cdv qual=true) (S:FnScope N ps scope)
  (len:∀vs H Q E,sp vs H Q E->vs.length=ps.length)
  (hbody:∀(A:Around) (outer:List Env) (s:Shared) (H:Hp) (vs:List V) (Q:VK) (E:XK),Room k (A.deeper (envOfC qual scope s.heap.objs.size f cdv))->sp vs H Q E ->
   ∃t,PSs (gI CX P w K mg base N qual scope f cdv A outer s H E) body t/\t { nx:=λ_ H'=>Q .non H',rt:=Q } (start N vs) H) :
  FnOk P w K mg base CX (k+1) f (PySem.W.fnOf name qual params body scope dV kV doc pm an cdv ct) ps sp:=by
 refine⟨len,λA outer s H args us vs Q E hr e0 hb r hsp=>?_⟩
 have hl:=len _ _ _ _ hsp
 have KX:K.In s.heap:=e0.mod.kin.keeps λb o e=>(e0.bs b o e).1
 have lim:s.heap.NoLimit:=e0.mod.nolimit.keeps λb o e=>(e0.bs b o e).1
 have hkind:∀y∈ps.zip us,scope.names.lookup y.1=some .local∨(scope.names.lookup y.1=some .cell/\((cellsFrom (s.heap.objs.size+1) scope.names []).lookup y.1).isSome=true):=λ⟨n,v⟩ hy=>by
  rcases S.par n (qM hy).1 with q|q
  ·exact .inl q
  ·exact .inr ⟨q,PySem.W.cellsFrom_some _ _ _ (.inl q)⟩
 refine codeAny_call_function hr.depth (KX _ _ lk) rfl S.co S.gen rfl (PySem.W.codeRec_of KX hcd) (hb _ _ _ _ ?_)
 refine wpAny_newFunctionEnv_cells S.kind hkind λenv he s1 x=>?_
 subst he
 refine⟨lim.keeps x.toInCall.keep,codeAny_func ?_⟩
 obtain⟨t,ht,hq⟩:=hbody A outer s H vs Q E (hr.deeper _) hsp
 have I:Inv (gI CX P w K mg base N qual scope f cdv A outer s H E) [] (start N vs) H s1:=qH6 S hr.hd e0 hl r x
 refine Qe (ht [] s1 (start N vs) H _ I hq) (λfl s' hs=>?_) λe s' hs=>hs
 have fin:∀{Z':St} {H':Hp} {v:V} {u:Value},Inv (gI CX P w K mg base N qual scope f cdv A outer s H E) [] Z' H' s'->RelV v u->Q v H'->CE outer P w H s Q u s':=
  λ{Z' H' v u} J rv q=>⟨v,H',J.os,J.bare,J.base,J.hok,rv,q⟩
 cases fl with
 | ret u =>
  obtain⟨v,Z',H',J,rv,q⟩:=hs
  exact fin J rv q
 | next =>
  obtain⟨Z',H',J,q⟩:=hs
  exact fin (v:=V.non) (u:=Value.none) J rfl q
 | brk =>
  obtain⟨_,_,_,q⟩:=hs
  exact False.elim q
 | cont =>
  obtain⟨_,_,_,q⟩:=hs
  exact False.elim q
end L2
namespace L2
open PySem PySem.Spec PyProof.Rows
section
variable {X:Cx}{x:Str}{p pos:Pos}{e:Expr}{es:List Expr}{t:TA}{id T:String}{r:List V->Hp->VK->Prop}
noncomputable def wB (r:List V->Hp->VK->Prop) (t:TA):TE:=fun Z H Q=>t Z H λvs H1=>r vs H1 Q
theorem AF (hc:CallR X (.builtin id) r) (hg:Gl X x) (hm:X.mg x=none) (hv:Qo x=some (.builtin id)) (ha:PA X (e::es) t) (hn:x≠"__name__":=by decide) (hdb:(x == ("__debug__":Str))=false:=by decide)
  (he:starEach (e::es) X.env=(false,eval e X.env)::starEach es X.env:=by rfl) (hpl:(backTo pos (starEach es X.env)).any (·.1)=false:=by rfl):PE X (.Call (.Name x p) (e::es) [] pos) (wB r t):=by
 intro pins s Z H Q I h
 refine wpAny_Call_Name_kw (gz I hg hm hv ?_ hn hdb)
 exact PyProof.Rows.callWith_builtin1 (aB (ha pos pins s Z H _ I h) λus s1 ⟨vs,H1,I1,r1,q1⟩=>hc pins s1 Z H1 vs us Q I1 r1 q1) he hpl
theorem qHO (hc:CallR X (.type T) r) (hg:Gl X x) (hm:X.mg x=none) (hv:Qo x=some (.type T)) (ha:PA X (e::es) t) (hn:x≠"__name__":=by decide) (hdb:(x == ("__debug__":Str))=false:=by decide)
  (he:starEach (e::es) X.env=(false,eval e X.env)::starEach es X.env:=by rfl) (hpl:(backTo pos (starEach es X.env)).any (·.1)=false:=by rfl):PE X (.Call (.Name x p) (e::es) [] pos) (wB r t):=by
 intro pins s Z H Q I h
 refine wpAny_Call_Name_kw (gz I hg hm hv ?_ hn hdb)
 exact ie (aB (ha pos pins s Z H _ I h) λus s1 ⟨vs,H1,I1,r1,q1⟩=>hc pins s1 Z H1 vs us Q I1 r1 q1) he hpl
end
end L2
namespace HT
open PySem PyProof.Rows
section
variable {prog:Program}{w:World}{A:Around}{E:Value->Shared->Prop}{s:Shared}
theorem cat_tup {t b:Addr}{vs ws:List Value}{Q:Value->Shared->Prop}(ht:IsTup s.heap t vs.toArray) (hb:IsTup s.heap b ws.toArray) (hv:vs≠[])
  (h1:ws=[]->Q (.ref t) s) (h2:ws≠[]->Q (.ref s.heap.objs.size) { s with heap:=s.heap.push { cls:=.type "tuple",data:=.seq (vs++ws).toArray } })
  (hsz:vs.length+ws.length<=sizeLine):wpAny (model prog w) A (binaryOp .Add (.ref t) (.ref b)) Q E s:=by
 obtain⟨⟨cls,dd,data,sl⟩,ho,hc,n,hd⟩:=id ht
 obtain⟨⟨cls2,dd2,data2,fN⟩,ho2,hc2,n2,hd2⟩:=id hb
 simp only at hc hd hc2 hd2
 subst hc hd hc2 hd2
 have e:vs.toArray++ws.toArray=(vs++ws).toArray:=by simp
 by_cases hw:ws=[]
 ·exact concat_meets ⟨_,ho,rfl⟩ ⟨_,ho2,rfl⟩ noFill_tuple_add seq_tuple_add qD qF (qG _ _)
   (tuple_addW1 t b vs.toArray ws.toArray n n2 dd dd2 sl fN (by simpa using hv) (by simp [hw])) ⟨ho,ho2,h1 hw⟩
 ·refine concat_meets ⟨_,ho,rfl⟩ ⟨_,ho2,rfl⟩ noFill_tuple_add seq_tuple_add qD qF (qG _ _)
   (tuple_addW2 t b vs.toArray ws.toArray n n2 dd dd2 sl fN (by simpa using hv) (by simpa using hw) (by rw [aZ,aZ];exact hsz)) ⟨ho,ho2,?_⟩
  rw [e]
  exact h2 hw
noncomputable def sIx (n d:Nat):Option Int->Nat
 | none=>d
 | some v=>if v<0 then (v+(n:Int)).toNat else min v.toNat n
theorem qOG (n d:Nat) (hd:d<=n) (o:Option Int):sIx n d o<=n:=by
 cases o with
 | none=>exact hd
 | some v =>
  show (if v<0 then (v+(n:Int)).toNat else min v.toNat n)<=n
  by_cases hv:v<0
  ·rw [Ql hv];omega
  ·rw [Qm hv];exact Nat.min_le_right _ _
theorem clip_eq (v:Int) (n d:Nat):(if v<0 then max (v+(n:Int)) 0 else min v (n:Int))=((sIx n d (some v):Nat):Int):=by
 show (if v<0 then max (v+(n:Int)) 0 else min v (n:Int))=(((if v<0 then (v+(n:Int)).toNat else min v.toNat n):Nat):Int)
 by_cases hv:v<0
 ·simp only [Ql hv];omega
 ·simp only [Qm hv];omega
theorem qGS (lo hi:Option Int) (n:Nat):Builtin.Slice.sliceAdjust lo hi 1 (n:Int)=(((sIx n 0 lo:Nat):Int),((sIx n n hi:Nat):Int)):=by
 have h1:¬((1:Int)<0):=by omega
 unfold Builtin.Slice.sliceAdjust
 simp only [h1,if_false]
 refine Prod.ext ?_ ?_
 ·cases lo with
  | none=>rfl
  | some v=>exact clip_eq v n 0
 ·cases hi with
  | none=>rfl
  | some v=>exact clip_eq v n n
theorem qGB (i j:Nat):Builtin.Slice.slicePlaces (i:Int) (j:Int) 1=j - i:=by
 unfold Builtin.Slice.slicePlaces
 have h1:(1:Int) > 0:=by omega
 simp only [h1,if_true,Int.ediv_one]
 split<;>omega
theorem Bv {v:Value}{o:Option Int}{Q:Option Int->Shared->Prop}(p:IsPart v o) (h:Q o s):wpAny (model prog w) A (Builtin.Slice.slicePartIndex v) Q E s:=by
 cases p with
 | none=>exact slicePart_none h
 | int i t=>exact slicePart_int h
theorem BP {sl:Addr}{vl vu:Value}{lo hi:Option Int}{n:Nat}{Q:Int×Int×Nat->Shared->Prop}(hs:s.heap.IsSliceOf sl vl vu .none) (pl:IsPart vl lo) (pu:IsPart vu hi)
  (h:Q (((sIx n 0 lo:Nat):Int),1,sIx n n hi - sIx n 0 lo) s):wpAny (model prog w) A (Builtin.Slice.sliceApplied (.ref sl) (pure (n:Int))) Q E s:=by
 obtain⟨os,hos,hcs,hds⟩:=id hs
 unfold Builtin.Slice.sliceApplied Builtin.Slice.sliceFields
 refine Qc (Qc (Qf hos hds (x:=vl) rfl (Qc (Qf hos hds (x:=vu) rfl (Qc (Qf hos hds (x:=.none) rfl (Qd ?_)))))))
 refine Qc (slicePart_none ?_)
 show wpAny _ _ (if ((1:Int) == 0)=true then _ else _) _ _ s
 rw [Qm (by decide)]
 refine Qc (Bv pl (Qc (Bv pu (Qc (Qd ?_)))))
 show wpAny _ _ (match Builtin.Slice.sliceAdjust lo hi 1 (n:Int) with|(lo,hi)=>pure (lo,(1:Int),Builtin.Slice.slicePlaces lo hi 1)) _ _ s
 rw [qGS lo hi n]
 show wpAny _ _ (pure (((sIx n 0 lo:Nat):Int),(1:Int),Builtin.Slice.slicePlaces ((sIx n 0 lo:Nat):Int) ((sIx n n hi:Nat):Int) 1)) _ _ s
 rw [qGB]
 exact Qd h
theorem qJM (xs:Array Value) (i k:Nat):((List.range k).filterMap λ(m:Nat)=>xs[((i:Int)+(m:Int) * 1).toNat]?).toArray=((xs.toList.drop i).take k).toArray:=by
 have e:(λ(m:Nat)=>xs[((i:Int)+(m:Int) * 1).toNat]?)=λm=>xs[i+m]?:=by
  funext m
  have:((i:Int)+(m:Int) * 1).toNat=i+m:=by omega
  rw [this]
 rw [e]
 have:=pick_run xs i k
 rw [List.filterMap_map] at this
 have e2:((λx=>xs[x]?) ∘ λx=>i+x)=λm=>xs[i+m]?:=rfl
 rw [e2] at this
 rw [this]
theorem getItem_tuple_cut {t sl:Addr}{items:Array Value}{vl vu:Value}{lo hi:Option Int}{Q:Value->Shared->Prop}(ht:IsTup s.heap t items) (hs:s.heap.IsSliceOf sl vl vu .none) (pl:IsPart vl lo) (pu:IsPart vu hi)
  (hw:¬(sIx items.size 0 lo=0/\sIx items.size items.size hi=items.size))
  (h:Q (.ref s.heap.objs.size) { s with heap:=s.heap.push { cls:=.type "tuple",data:=.seq ((items.toList.drop (sIx items.size 0 lo)).take (sIx items.size items.size hi - sIx items.size 0 lo)).toArray } })
  (hsz:items.size<=sizeLine):wpAny (model prog w) A (getItem (.ref t) (.ref sl)) Q E s:=by
 have htake:sizeOk (.seq ((items.toList.drop (sIx items.size 0 lo)).take (sIx items.size items.size hi - sIx items.size 0 lo)).toArray):=by
  show ((items.toList.drop (sIx items.size 0 lo)).take (sIx items.size items.size hi - sIx items.size 0 lo)).toArray.size<=sizeLine
  rw [aZ,qN,List.length_drop,qz]
  omega
 have hj:sIx items.size items.size hi<=items.size:=qOG _ _ (aK _) hi
 obtain⟨os,hos,hcs,hds⟩:=id hs
 have hTs:s.TypeIs (.ref sl) "slice":=⟨os,hos,hcs⟩
 unfold getItem
 try with_reducible refine wpAny_holding ?_
 first|refine Qc (Qd ?_)|skip
 refine Qc (wpAny_sequenceKey ht.typeIs (by decide) ?_)
 refine Qc (wpAny_callSpecial?_slot (name:=Qa "__getitem__") ht.typeIs yat
  (wpAny_call_entry yat ht.typeIs entry_tuple_getitem ?_ (args_tuple_getitem _ _)))
 show wpAny _ _ (Builtin.Tuple.tupleItemsOf (.ref t) >>= _) _ _ s
 refine Qc (tupleItemsOf_ ht ?_)
 refine Qc (wpAny_typeOf hTs ?_)
 rw [Ql (by decide)]
 refine Qc (BP hs pl pu ?_)
 have hno:¬((((sIx items.size 0 lo:Nat):Int) == 0&&(1:Int) == 1&&(sIx items.size items.size hi - sIx items.size 0 lo) == items.size)=true):=by
  intro q
  rw [aL,aL] at q
  have q1:((sIx items.size 0 lo:Nat):Int)=0:=eq_of_beq q.1.1
  have q2:sIx items.size items.size hi - sIx items.size 0 lo=items.size:=eq_of_beq q.2
  exact hw ⟨by omega,by omega⟩
 show wpAny _ _ (if (((sIx items.size 0 lo:Nat):Int) == 0&&(1:Int) == 1&&(sIx items.size items.size hi - sIx items.size 0 lo) == items.size)=true then _ else _) _ _ s
 rw [Qm hno,qJM]
 first
  | exact Qc (m:=Builtin.Tuple.tupleExact _) (wpAny_newObj_type (Qd ⟨_,rfl,Qd h⟩) htake)
  | exact Qc (m:=Builtin.Tuple.tupleExact _) (wpAny_newObj_type (Qc (Qd (Qd ⟨_,rfl,Qd h⟩))) htake)
  | exact Qc (Qc (m:=Builtin.Tuple.tupleExact _) (wpAny_newObj_type (Qd (Qd ⟨_,rfl,Qd h⟩)) htake))
  | exact Qc (Qc (m:=Builtin.Tuple.tupleExact _) (wpAny_newObj_type (Qd ⟨_,rfl,Qd h⟩) htake))
end
end HT
namespace L2
open PySem PySem.Spec PyProof.Rows
abbrev TO:=St->Hp->(Option Int->Hp->Prop)->Prop
def PO (X:Cx) (e:Option Expr) (t:TO):Prop:=
 ∀(pins:List (Addr×Obj)) (s:Shared) (Z:St) (H:Hp) (Q:Option Int->Hp->Prop),Inv X pins Z H s->t Z H Q ->
   wpAny (model X.prog X.w) X.A (evalPart e X.env) (λu s'=>∃o H',Inv X pins Z H' s'/\IsPart u o/\Q o H') X.xe s
noncomputable def qL5:TO:=λ_ H Q=>Q none H
noncomputable def qRu (t:TE):TO:=fun Z H Q=>t Z H λx H1=>∃i,x=.int i/\Q (some i) H1
theorem qGJ {ns:List Int}:∀{us:List Value},Vals (ns.map V.int) us->IntsAre us ns:=by
 induction ns with
 | nil=>intro us r;rw [List.map_nil] at r;cases r;exact .nil
 | cons n ns ih =>
  intro us r
  rw [gd] at r
  cases r with
  | cons r1 r2 =>
   obtain⟨t,e⟩:=r1
   subst e
   exact .cons n t (ih r2)
section
variable {X:Cx}{e:Expr}{te:TE}{lo hi:Option Expr}{tl th:TO}{pos p2:Pos}
theorem qMN:PO X none qL5:=by
 intro pins s Z H Q I h
 rw [evalPart_none]
 exact Qd ⟨none,H,I,.none,h⟩
theorem qMM (h:PE X e te):PO X (some e) (qRu te):=by
 intro pins s Z H Q I hw
 rw [evalPart_some]
 refine aB (h pins s Z H _ I hw) λu s1 ⟨x,H1,I1,r1,q1⟩=>?_
 obtain⟨i,rfl,q⟩:=q1
 obtain⟨t,rfl⟩:=r1
 exact⟨some i,H1,I1,.int i t,q⟩
def SlR (X:Cx) (r:V->Option Int->Option Int->Hp->VK->Prop):Prop:=
 ∀(pins:List (Addr×Obj)) (s:Shared) (Z:St) (H:Hp) (x:V) (v vl vu:Value) (lo hi:Option Int) (sl:Addr) (Q:VK),Inv X pins Z H s->RelV x v->s.heap.IsSliceOf sl vl vu .none->IsPart vl lo->IsPart vu hi->r x lo hi H Q ->
   ∃T id,typeLookup (.type T) "__getitem__"=pure (some (.builtin id))/\s.TypeIs v T/\wpAny (model X.prog X.w) X.A (getItem v (.ref sl)) (EP X pins Z Q) X.xe s
theorem SlR.or {r r':V->Option Int->Option Int->Hp->VK->Prop}(h:SlR X r) (h':SlR X r'):SlR X (λx lo hi H Q=>r x lo hi H Q∨r' x lo hi H Q):=by
 intro pins s Z H x v vl vu lo hi sl Q I rx hs pl pu q
 rcases q with q|q
 ·exact h pins s Z H x v vl vu lo hi sl Q I rx hs pl pu q
 ·exact h' pins s Z H x v vl vu lo hi sl Q I rx hs pl pu q
noncomputable def tSl (r:V->Option Int->Option Int->Hp->VK->Prop) (te:TE) (tl th:TO):TE:=fun Z H Q=>te Z H λx H1=>tl Z H1 λl H2=>th Z H2 λu H3=>r x l u H3 Q
theorem qJN {r:V->Option Int->Option Int->Hp->VK->Prop}(hr:SlR X r) (he:PE X e te) (hl:PO X lo tl) (hu:PO X hi th):PE X (.Subscript e (.Slice lo hi none p2) pos) (tSl r te tl th):=by
 intro pins s Z H Q I h
 refine Subscript_ (aB (he pins s Z H _ I h) λv s1 ⟨x,H1,I1,r1,q1⟩=>?_)
 refine wpAny_Slice (aB (hl pins s1 Z H1 _ I1 q1) λvl s2 ⟨l,H2,I2,pl,q2⟩=>aB (hu pins s2 Z H2 _ I2 q2) λvu s3 ⟨u,H3,I3,pu,q3⟩=>?_)
 rw [evalPart_none]
 refine Qd ?_
 have I4:Inv X pins Z H3 { s3 with heap:=s3.heap.push { cls:=.type "slice",data:=.fields #[vl,vu,.none] } }:=I3.kept (t':=s3.toks) λb ob q=>Qg _ q
 obtain⟨T,id,hT,ht,hg⟩:=hr pins { s3 with heap:=s3.heap.push { cls:=.type "slice",data:=.fields #[vl,vu,.none] } } Z H3 x v vl vu l u s3.heap.objs.size Q I4 r1 (Heap.IsSliceOf.new ..) pl pu q3
 show wpAny (model X.prog X.w) X.A (subscriptTail e (.Slice lo hi none p2) v (.ref s3.heap.objs.size)) (EP X pins Z Q) X.xe { s3 with heap:=s3.heap.push { cls:=.type "slice",data:=.fields #[vl,vu,.none] } }
 exact tail_any (ops:=[.ref s3.heap.objs.size,v]) ht hT hg (by with_unfolding_all rfl)
def ir (xs:List V) (lo hi:Option Int):List V:=(xs.drop (HT.sIx xs.length 0 lo)).take (HT.sIx xs.length xs.length hi - HT.sIx xs.length 0 lo)
theorem BE (xs:List V) (lo hi:Option Int):(ir xs lo hi).length<=xs.length:=by
 unfold ir
 rw [qN,List.length_drop]
 omega
def qTT (K:Qb):V->Option Int->Option Int->Hp->VK->Prop:=λx lo hi H Q=>∃a xs,x=.ref a/\SqT K H a xs /\
 ¬(HT.sIx xs.length 0 lo=0/\HT.sIx xs.length xs.length hi=xs.length)/\∀p,H p=none->Q (.ref p) (ay H p (.tup (ir xs lo hi)))
theorem qOD:SlR X (qTT X.K):=by
 intro pins s Z H x v vl vu lo hi sl Q I rx hs pl pu h
 obtain⟨a,xs,rfl,hx,hw,q⟩:=h
 cases rx
 obtain⟨its,r,ht,hz⟩:=I.tuple hx
 have hlen:its.toArray.size=xs.length:=by rw [aZ];exact r.length.symm
 refine⟨"tuple",_,yat.lookup,ht.typeIs,?_⟩
 refine HT.getItem_tuple_cut ht hs pl pu (by rw [hlen];exact hw) ?_ (by rw [hlen];exact hz)
 rw [hlen]
 refine⟨.ref s.heap.objs.size,_,I.laid (t':=s.toks) (o:=.tup (ir xs lo hi)) (λb ob q=>Qg _ q) (aK _) ?_,rfl,q _ (I.hok.fresh (aK _))⟩
 exact⟨dM (BE xs lo hi) hz,_,(r.drop (HT.sIx xs.length 0 lo)).take (HT.sIx xs.length xs.length hi - HT.sIx xs.length 0 lo),IsTup.new _ _⟩
def qRL (K:Qb):R2:=λx y H Q=>∃a b xs ys,x=.ref a/\y=.ref b/\SqT K H a xs/\SqT K H b ys/\xs≠[]/\xs.length+ys.length<=sizeLine /\
 (ys=[]->Q (.ref a) H)/\(ys≠[]->∀p,H p=none->Q (.ref p) (ay H p (.tup (xs++ys))))
theorem Vals.nil_iff {xs:List V}{us:List Value}(r:Vals xs us):us=[]↔xs=[]:=by
 cases r with
 | nil=>simp
 | cons _ _=>simp
theorem qM3:OpR X (binaryOp .Add) (qRL X.K):=by
 intro pins s Z H x y v u Q I rx ry h
 obtain⟨a,b,xs,ys,rfl,rfl,ha,hb,hx,hz,q1,q2⟩:=h
 cases rx
 cases ry
 obtain⟨its,r1,p1,_⟩:=I.tuple ha
 obtain⟨its2,r2,p2,_⟩:=I.tuple hb
 refine HT.cat_tup p1 p2 (λz=>hx (r1.nil_iff.mp z)) (λz=>⟨.ref a,H,I,rfl,q1 (r2.nil_iff.mp z)⟩) (λz=>?_) (by rw [<-r1.length,<-r2.length];exact hz)
 refine⟨.ref s.heap.objs.size,_,I.laid (t':=s.toks) (o:=.tup (xs++ys)) (λb ob q=>Qg _ q) (aK _) ?_,rfl,q2 (λw=>z (r2.nil_iff.mpr w)) _ (I.hok.fresh (aK _))⟩
 exact⟨by rw [ik];exact hz,_,r1.append r2,IsTup.new _ _⟩
end
end L2
namespace L2
open PySem PySem.Spec PyProof.Rows
noncomputable def ixN (n:Nat) (i:Int):Option Nat:=if 0<=i then (if i<n then some i.toNat else none) else if -(n:Int)<=i then some (i+n).toNat else none
def k6 {α:Type}(xs:List α) (i:Int):Option α:=(ixN xs.length i).bind λj=>xs[j]?
theorem qNo {n:Nat}{i:Int}{j:Nat}(h:ixN n i=some j):seqIndex? i n=some j/\j<n/\-(n:Int)<=i/\i<n:=by
 unfold ixN at h
 by_cases h0:0<=i
 ·rw [Ql h0] at h
  by_cases h1:i<n
  ·rw [Ql h1] at h
   have e:i.toNat=j:=fB h
   exact⟨by rw [seqIndex_of h0 h1,e],by omega,by omega,h1⟩
  ·rw [Qm h1] at h;cases h
 ·rw [Qm h0] at h
  by_cases h1:-(n:Int)<=i
  ·rw [Ql h1] at h
   have e:(i+n).toNat=j:=fB h
   exact⟨by rw [seqIndex_neg (by omega) h1,e],by omega,h1,by omega⟩
  ·rw [Qm h1] at h;cases h
theorem zx {α:Type}{xs:List α}{i:Int}{v:α}(h:k6 xs i=some v):∃j,seqIndex? i xs.length=some j/\xs[j]?=some v/\j<xs.length/\-(xs.length:Int)<=i/\i<xs.length:=by
 unfold k6 at h
 cases e:ixN xs.length i with
 | none=>rw [e] at h;cases h
 | some j =>
  rw [e] at h
  obtain⟨h1,h2,h3,h4⟩:=qNo e
  exact⟨j,h1,h,h2,h3,h4⟩
def lP (b:Expr):Prop:=∀o i,subscripted b false o i=operate [o,i] (getItem o i)
def IxR (X:Cx) (r:R2):Prop:=
 ∀(value slice:Expr) (pins:List (Addr×Obj)) (s:Shared) (Z:St) (H:Hp) (x y:V) (v u:Value) (Q:VK),Inv X pins Z H s->RelV x v->RelV y u->r x y H Q ->
   subscripted slice false v u=operate [v,u] (getItem v u)->wpAny (model X.prog X.w) X.A (subscriptTail value slice v u) (EP X pins Z Q) X.xe s
def Ck (X:Cx) (id:String) (r:V->List V->Hp->VK->Prop):Prop:=
 ∀(pins:List (Addr×Obj)) (s:Shared) (Z:St) (H:Hp) (x:V) (xs:List V) (v:Value) (us:List Value) (Q:VK),Inv X pins Z H s->RelV x v->Vals xs us->r x xs H Q ->
   wpAny (model X.prog X.w) X.A (call (.builtin id) (v::us)) (EP X pins Z Q) X.xe s
section
variable {X:Cx}{a b:Expr}{ta tb:TE}{pos:Pos}
theorem IxR.or {r r':R2}(h:IxR X r) (h':IxR X r'):IxR X (λx y H Q=>r x y H Q∨r' x y H Q):=by
 intro value slice pins s Z H x y v u Q I rx ry q hs
 rcases q with q|q
 ·exact h value slice pins s Z H x y v u Q I rx ry q hs
 ·exact h' value slice pins s Z H x y v u Q I rx ry q hs
theorem qRW {r:R2}(hr:IxR X r) (ha:PE X a ta) (hb:PE X b tb) (hs:lP b):PE X (.Subscript a b pos) (nY r ta tb):=by
 intro pins s Z H Q I h
 exact Subscript_ (ro ha hb I h λv u s2 x y H2 I2 rx ry q=>hr a b pins s2 Z H2 x y v u Q I2 rx ry q (hs _ _))
def qTY (K:Qb):R2:=λx y H Q=>∃p xs i v,x=.ref p/\y=.int i/\SqL K H p xs/\k6 xs i=some v/\Q v H
def qTX (K:Qb):R2:=λx y H Q=>∃p xs i v,x=.ref p/\y=.int i/\SqT K H p xs/\k6 xs i=some v/\Q v H
theorem ix_list:IxR X (qTY X.K):=by
 intro value slice pins s Z H x y v u Q I rx ry h hs
 obtain⟨p,xs,i,z,rfl,rfl,hq,he,q⟩:=h
 cases rx
 obtain⟨t,rfl⟩:=ry
 obtain⟨its,r,pl,hz⟩:=I.list hq
 obtain⟨j,h1,h2,h3,h4,h5⟩:=zx he
 obtain⟨w,ew,rw'⟩:=r.get h2
 have hl:=r.length
 have hn:=rT
 have fin:EP X pins Z Q w s:=⟨z,H,I,rw',q⟩
 by_cases h0:0<=i
 ·have hj:i.toNat=j:=by
   rw [seqIndex_of h0 h5] at h1
   exact fB h1
  exact item_listR pl.isList h0 (by omega) (by rw [hj];simpa using ew) fin hs
 ·have hj:(i+(its.toArray.size:Int)).toNat=j:=by
   rw [seqIndex_neg (by omega) h4] at h1
   rw [aZ,<-hl]
   exact fB h1
  exact subscriptTail_builtinR (x:=w) pl.isList.typeIs slot_list_getitem.lookup
   (wpAny_getItem_list_neg (Q:=λr s'=>r=w/\EP X pins Z Q r s') pl.isList (by omega) (by rw [aZ]<;>omega) (by omega) (by rw [hj];simpa using ew) ⟨rfl,fin⟩) hs
theorem qPQ:IxR X (qTX X.K):=by
 intro value slice pins s Z H x y v u Q I rx ry h hs
 obtain⟨p,xs,i,z,rfl,rfl,hq,he,q⟩:=h
 cases rx
 obtain⟨t,rfl⟩:=ry
 obtain⟨its,r,pl,hz⟩:=I.tuple hq
 obtain⟨j,h1,h2,h3,h4,h5⟩:=zx he
 obtain⟨w,ew,rw'⟩:=r.get h2
 have hl:=r.length
 have hn:=rT
 have fin:EP X pins Z Q w s:=⟨z,H,I,rw',q⟩
 exact subscriptTail_builtinR (x:=w) pl.typeIs slot_tuple_getitem.lookup
  (getItem_tuple (j:=j) (Q:=λr s'=>r=w/\EP X pins Z Q r s') pl (by omega) (by omega) (by rw [aZ,<-hl];exact h1) (by simpa using ew) ⟨rfl,fin⟩) hs
theorem qEm (lo hi:Option Int) (n:Nat):(sliceBounds lo hi none n).1=((HT.sIx n 0 lo:Nat):Int)/\(sliceBounds lo hi none n).2.1=((HT.sIx n n hi:Nat):Int)/\(sliceBounds lo hi none n).2.2=1:=by
 refine⟨?_,?_,rfl⟩
 ·cases lo with
  | none=>simp [sliceBounds,HT.sIx]
  | some i =>
   simp only [sliceBounds,HT.sIx,Option.getD_none,show (1:Int) > 0 by decide,if_true]
   by_cases h:i<0
   ·simp only [h,if_true]<;>omega
   ·simp only [h,if_false]<;>omega
 ·cases hi with
  | none=>simp [sliceBounds,HT.sIx]
  | some i =>
   simp only [sliceBounds,HT.sIx,Option.getD_none,show (1:Int) > 0 by decide,if_true]
   by_cases h:i<0
   ·simp only [h,if_true]<;>omega
   ·simp only [h,if_false]<;>omega
theorem qDJ (its:List Value) (lo hi:Option Int):slicePick its.toArray lo hi none=((its.drop (HT.sIx its.length 0 lo)).take (HT.sIx its.length its.length hi - HT.sIx its.length 0 lo)).toArray:=by
 obtain⟨h1,h2,h3⟩:=qEm lo hi its.toArray.size
 unfold slicePick
 rw [h1,h2,h3]
 simp only [sliceRange_one,pick_run,aZ]<;>rfl
def qTU (K:Qb):V->Option Int->Option Int->Hp->VK->Prop:=λx lo hi H Q=>∃a xs,x=.ref a/\SqL K H a xs/\∀p,H p=none->Q (.ref p) (ay H p (.lst (ir xs lo hi)))
theorem sl_list:SlR X (qTU X.K):=by
 intro pins s Z H x v vl vu lo hi sl Q I rx hs pl pu h
 obtain⟨a,xs,rfl,hx,q⟩:=h
 cases rx
 obtain⟨its,r,ht,hz⟩:=I.list hx
 have hlen:=r.length
 refine⟨"list",_,slot_list_getitem.lookup,ht.isList.typeIs,?_⟩
 refine wpAny_getItem_list_slice ht.isList hs pl pu .none (by simp) ?_ (by rw [aZ]<;>omega)
 rw [qDJ,<-hlen]
 refine⟨.ref s.heap.objs.size,_,I.laid (t':=s.toks) (o:=.lst (ir xs lo hi)) (λb ob q=>Qg _ q) (aK _) ?_,rfl,q _ (I.hok.fresh (aK _))⟩
 exact⟨dM (BE xs lo hi) hz,_,0,(r.drop (HT.sIx xs.length 0 lo)).take (HT.sIx xs.length xs.length hi - HT.sIx xs.length 0 lo),Qh _ rfl⟩
theorem qEI:CallR X (.builtin "len") (λxs H Q=>∃p ys,xs=[.ref p]/\(SqL X.K H p ys∨SqT X.K H p ys)/\Q (.int ys.length) H):=by
 intro pins s Z H xs us Q I r h
 obtain⟨p,ys,rfl,hq,q⟩:=h
 obtain⟨u,rfl,rx⟩:=fH r
 cases rx
 have hn:=rT
 rcases hq with hq|hq
 ·obtain⟨its,r',pl,hz⟩:=I.list hq
  have hlen:=r'.length
  exact Calls.call_len_list pl.isList (by simp only [aZ]<;>omega) ⟨.int ys.length,H,I.tok _,⟨s.toks+1,by rw [aZ,hlen]⟩,q⟩
 ·obtain⟨its,r',pl,hz⟩:=I.tuple hq
  have hlen:=r'.length
  exact len_tuple pl (by simp only [aZ]<;>omega) ⟨.int ys.length,H,I.tok _,⟨s.toks+1,by rw [aZ,hlen]⟩,q⟩
theorem CallR.or {f:Value}{r r':List V->Hp->VK->Prop}(h:CallR X f r) (h':CallR X f r'):CallR X f (λxs H Q=>r xs H Q∨r' xs H Q):=by
 intro pins s Z H xs us Q I rs q
 rcases q with q|q
 ·exact h pins s Z H xs us Q I rs q
 ·exact h' pins s Z H xs us Q I rs q
theorem qEH:CallR X (.type "list") (λxs H Q=>∃p ys,xs=[.ref p]/\(SqL X.K H p ys∨SqT X.K H p ys)/\∀l,H l=none->Q (.ref l) (ay H l (.lst ys))):=by
 intro pins s Z H xs us Q I r h
 obtain⟨p,ys,rfl,hq,q⟩:=h
 obtain⟨u,rfl,rx⟩:=fH r
 cases rx
 have fin:∀(its:List Value),Vals ys its->ys.length<=sizeLine->∀(h':Heap) (c':Nat),(∀b o',s.heap.get? b=some o'->h'.get? b=some o') ->
   h'.get? s.heap.objs.size=some { cls:=.type "list",dict:=none,data:=.seq its.toArray c',slots:=#[] }->EP X pins Z Q (.ref s.heap.objs.size) { s with heap:=h' }:=λits r' hz h' c' kp e =>
  ⟨.ref s.heap.objs.size,_,I.laid (t':=s.toks) kp (aK _) (show ObjOk X.prog X.w _ h' _ (.lst ys) from ⟨hz,its,c',r',e⟩),rfl,q _ (I.hok.fresh (aK _))⟩
 rcases hq with hq|hq
 ·obtain⟨its,r',pl,hz⟩:=I.list hq
  have hlen:=r'.length
  obtain⟨o,ho,hc,n,hd⟩:=pl.isList
  exact call_list_seq p (.inl rfl) ho hc hd (λh' c' kp e=>fin its r' hz h' c' kp e) (by simp only [aZ]<;>omega)
 ·obtain⟨its,r',pl,hz⟩:=I.tuple hq
  have hlen:=r'.length
  obtain⟨o,ho,hc,n,hd⟩:=pl
  exact call_list_seq p (.inr rfl) ho hc hd (λh' c' kp e=>fin its r' hz h' c' kp e) (by simp only [aZ]<;>omega)
theorem qD4:CallR X (.type "tuple") (λxs H Q=>∃p ys,xs=[.ref p]/\((SqL X.K H p ys/\∀l,H l=none->Q (.ref l) (ay H l (.tup ys)))∨(SqT X.K H p ys/\Q (.ref p) H))):=by
 intro pins s Z H xs us Q I r h
 obtain⟨p,ys,rfl,h⟩:=h
 obtain⟨u,rfl,rx⟩:=fH r
 cases rx
 rcases h with ⟨hq,q⟩|⟨hq,q⟩
 ·obtain⟨its,r',pl,hz⟩:=I.list hq
  have hlen:=r'.length
  refine call_tuple_list pl.isList (λh' kp=>?_) (by simp only [aZ]<;>omega)
  have I1:Inv X pins Z H { s with heap:=h' }:=I.kept (t':=s.toks) kp
  have I2:Inv X pins Z (ay H h'.objs.size (.tup ys)) { s with heap:=h'.push { cls:=.type "tuple",data:=.seq its.toArray } }:=
   I1.laid (t':=s.toks) (λb o e=>Qg _ e) (aK _) (show ObjOk X.prog X.w _ _ _ (.tup ys) from ⟨hz,its,r',IsTup.new _ _⟩)
  exact⟨.ref h'.objs.size,_,I2,rfl,q _ (I1.hok.fresh (aK _))⟩
 ·obtain⟨its,r',pl,hz⟩:=I.tuple hq
  exact call_tuple_same pl ⟨.ref p,H,I,rfl,q⟩
def qU (K:Qb) (T:String) (x:V) (H:Hp):Prop:=match x with
 | .str _=>T="str"
 | .int _=>T="int"
 | .ref p=>(T="list"/\∃xs,SqL K H p xs)∨(T="tuple"/\∃o,K.lookup p=some o/\o.cls=.type "tuple"/\o.dict=none) ∨
   (T="dict"/\((∃kvs,H p=some (.dK kvs))∨∃kvs,H p=some (.dT kvs)))∨(T="set"/\∃S n,H p=some (.set S n))
 | _=>False
theorem yI {pins:List (Addr×Obj)}{Z:St}{H:Hp}{s:Shared}{T:String}{x:V}{v:Value}(I:Inv X pins Z H s) (r:RelV x v) (ty:qU X.K T x H) :
  s.TypeIs v T/\∀a,v=.ref a->∃ob,s.heap.get? a=some ob/\ob.dict=none:=by
 cases x with
 | str z =>
  obtain⟨t,rfl⟩:=r
  cases (show T="str" from ty)
  exact⟨typeIs_str s z t,λ_ e=>nomatch e⟩
 | int i =>
  obtain⟨t,rfl⟩:=r
  cases (show T="int" from ty)
  exact⟨typeIs_int s i t,λ_ e=>nomatch e⟩
 | ref p =>
  cases r
  rcases ty with ⟨rfl,xs,hq⟩|⟨rfl,o,hk,hc,hd⟩|⟨rfl,hk⟩|⟨rfl,S,n,hk⟩
  ·obtain⟨its,_,pl,_⟩:=I.list hq
   refine⟨pl.isList.typeIs,λa e=>?_⟩
   cases e
   obtain⟨o,n,e,c,hd,_⟩:=pl
   exact⟨o,e,hd⟩
  ·refine⟨⟨o,I.kIn p o hk,hc⟩,λa e=>?_⟩
   cases e
   exact⟨o,I.kIn _ o hk,hd⟩
  ·have z:∃o,s.heap.get? p=some o/\o.ExactDict:=by
    rcases hk with ⟨kvs,hk⟩|⟨kvs,hk⟩
    ·obtain⟨_,_,_,_,o,_,_,e,ex,_⟩:=I.hok p _ hk
     exact⟨o,e,ex⟩
    ·obtain⟨_,_,_,_,o,_,_,e,ex,_⟩:=I.hok p _ hk
     exact⟨o,e,ex⟩
   obtain⟨o,e,ex⟩:=z
   refine⟨⟨o,e,ex.1⟩,λa e2=>?_⟩
   cases e2
   exact⟨o,e,ex.2.1⟩
  ·obtain⟨o,_,_,_,e,ex,_⟩:=I.hok p _ hk
   refine⟨⟨o,e,ex.1⟩,λa e2=>?_⟩
   cases e2
   exact⟨o,e,ex.2.1⟩
 | _=>exact False.elim ty
noncomputable def qTK (K:Qb) (T:String) (r:V->List V->Hp->VK->Prop) (to:TE):TE:=fun Z H Q=>to Z H λx H1=>qU K T x H1/\r x [] H1 Q
noncomputable def tBM (K:Qb) (T:String) (r:V->List V->Hp->VK->Prop) (to:TE) (t:TA):TE:=fun Z H Q=>to Z H λx H1=>qU K T x H1/\t Z H1 λxs H2=>r x xs H2 Q
variable {o e:Expr}{es:List Expr}{to:TE}{t:TA}{name:Str}{apos cpos:Pos}{T id:String}{r:V->List V->Hp->VK->Prop}
theorem qPa (pa:PlainAttrs T) (slot:Slot T name id) (hty:typeOf (.builtin id)=pure (.type "method_descriptor")) (hm:Ck X id r) (ho:PE X o to)
  (hbase:attributeBase o name X.env (eval o X.env)=eval o X.env:=by rfl) (hline:(apos.endLine == cpos.line)=true:=by rfl):PE X (.Call (.Attribute o name apos) [] [] cpos) (qTK X.K T r to):=by
 intro pins s Z H Q I h
 refine wpAny_Call_method0_late hbase hline (aB (ho pins s Z H _ I h) λv s1 ⟨x,H1,I1,r1,ty,q1⟩=>?_)
 obtain⟨h1,h2⟩:=yI I1 r1 ty
 exact⟨T,id,pa,slot,hty,h1,h2,Calls.callWith_builtin rfl (PySem.evalArgs_none (hm pins s1 Z H1 x [] v [] Q I1 r1 .nil q1))⟩
theorem xG (pa:PlainAttrs T) (slot:Slot T name id) (hty:typeOf (.builtin id)=pure (.type "method_descriptor")) (hm:Ck X id r) (ho:PE X o to) (ha:PA X (e::es) t)
  (hbase:attributeBase o name X.env (eval o X.env)=eval o X.env:=by rfl)
  (hfew:((backTo cpos (starEach (e::es) X.env)).all (λx=>!x.1)&&(backToKw cpos (keywordEach [] X.env)).all (λx=>x.1.isSome)
   && decide ((e::es).length+([]:List Keyword).length+(if ([]:List Keyword).isEmpty then 0 else 1)<30))=true:=by rfl)
  (hline:(apos.endLine == cpos.line)=true:=by rfl) (hs:starEach (e::es) X.env=(false,eval e X.env)::starEach es X.env:=by rfl) (hplain:(backTo cpos (starEach es X.env)).any (·.1)=false:=by rfl) :
  PE X (.Call (.Attribute o name apos) (e::es) [] cpos) (tBM X.K T r to t):=by
 intro pins s Z H Q I h
 refine wpAny_Call_method_late hbase hfew hline rfl (aB (ho pins s Z H _ I h) λv s1 ⟨x,H1,I1,r1,ty,q1⟩=>?_)
 obtain⟨h1,h2⟩:=yI I1 r1 ty
 refine⟨T,id,pa,slot,hty,h1,h2,?_⟩
 have hA:=ha cpos pins s1 Z H1 _ I1 q1
 rw [hs] at hA ⊢
 refine Calls.callWith_builtin (by show (false||(backTo cpos (starEach es X.env)).any (·.1))=false;rw [hplain]<;>rfl) (Calls.evalArgs_plain ?_)
 exact aB hA λus s2 ⟨vs,H2,I2,r2,q2⟩=>hm pins s2 Z H2 x vs v us Q I2 r1 r2 q2
end
end L2
namespace L2
open PySem PySem.Spec PyProof.Rows
def jJ (X:Cx) (id:String) (r:V->List V->Hp->VK->Prop):Prop:=
 ∀(pins:List (Addr×Obj)) (s:Shared) (Z:St) (H:Hp) (x:V) (xs:List V) (v:Value) (us:List Value) (Q:VK),Inv X pins Z H s->RelV x v->Vals xs us->r x xs H Q ->
   wpAny (model X.prog X.w) X.A (call (.builtin id) (v::us)) (EP X pins Z Q) X.xe s
theorem Vals.one:∀{x:V}{us:List Value},Vals [x] us->∃u,us=[u]/\RelV x u
 | _,_,.cons r .nil=>⟨_,rfl,r⟩
theorem Vals.zero:∀{us:List Value},Vals [] us->us=[]
 | _,.nil=>rfl
theorem Vals.dropLast {xs:List V}{us:List Value}(h:Vals xs us):Vals xs.dropLast us.dropLast:=by
 induction h with
 | nil=>exact .nil
 | cons r t ih =>
  cases t with
  | nil=>exact .nil
  | cons q t'=>exact .cons r ih
theorem Vals.rep {xs:List V}{us:List Value}(h:Vals xs us):∀k:Nat,Vals (List.replicate k xs).flatten (List.replicate k us).flatten
 | 0=>.nil
 | k+1=>by
  rw [jU,jU,nJ,nJ]
  exact Vals.append h (Vals.rep h k)
theorem qGM {α:Type}(l:List α):l.eraseIdx (l.length - 1)=l.dropLast:=by
 induction l with
 | nil=>rfl
 | cons a r ih =>
  cases r with
  | nil=>rfl
  | cons b r =>
   have e:(a::b::r).length - 1=((b::r).length - 1)+1:=by
    have h1:(a::b::r).length=r.length+2:=rfl
    have h2:(b::r).length=r.length+1:=rfl
    omega
   rw [e,List.eraseIdx_cons_succ,ih]
   all_goals rfl
theorem A9 (its:List Value):∀(k:Nat) (acc:List Value),
  List.foldl (λx1 x2=>x1++x2) acc.toArray (List.replicate k its.toArray)=(acc++(List.replicate k its).flatten).toArray
 | 0,acc=>by simp
 | k+1,acc=>by
  have e:acc.toArray++its.toArray=(acc++its).toArray:=by simp
  have e2:(acc++its)++(List.replicate k its).flatten=acc++(List.replicate (k+1) its).flatten:=by
   rw [jU,nJ,List.append_assoc]
  rw [<-e2,<-A9 its k (acc++its),<-e,jU,lq]
section
variable {X:Cx}{pins:List (Addr×Obj)}{Z:St}{H:Hp}{s:Shared}{l b:Addr}{xs ys zs:List V}
theorem Inv.lset {its its':List Value}{n:Nat}{f:Array Value->Array Value}{t':Nat}(I:Inv X pins Z H s) (hH:H l=some (.lst xs))
  (e:s.heap.get? l=some { cls:=.type "list",data:=.seq its.toArray n }) (hf:f its.toArray=its'.toArray) (hv:Vals ys its') (hz:ys.length<=sizeLine) :
  Inv X pins Z (ay H l (.lst ys)) { s with heap:=s.heap.update l (Obj.mapSeq f),toks:=t' }:=by
 have q:=PySem.IsL.update e f
 rw [hf] at q
 refine I.write (x:=l) (e:=l) (by rw [hH];exact trivial) (.inl rfl) (λb' u hb hu=>(Heap.get?_update_other s.heap (Obj.mapSeq f) (Ne.symm hb)).trans hu) ⟨_,q⟩ ?_
 exact⟨hz,its',_,hv,q⟩
theorem Inv.lnew {its:List Value}{t':Nat}(I:Inv X pins Z H s) (hv:Vals ys its) (hz:ys.length<=sizeLine) :
  Inv X pins Z (ay H s.heap.objs.size (.lst ys)) { s with heap:=s.heap.push { cls:=.type "list",data:=.seq its.toArray },toks:=t' }:=
 I.laid (λ_ _ q=>Qg _ q) (aK _) ⟨hz,its,0,hv,Qh _ rfl⟩
theorem Inv.fresh (I:Inv X pins Z H s):H s.heap.objs.size=none:=I.hok.fresh (aK _)
theorem Inv.lstM (I:Inv X pins Z H s) (hH:H l=some (.lst xs)):xs.length<=sizeLine/\∃(its:List Value) (n:Nat),Vals xs its/\xs.length=its.length/\s.heap.get? l=some { cls:=.type "list",data:=.seq its.toArray n }:=by
 obtain⟨z,its,n,r,e⟩:=I.hok l _ hH
 exact⟨z,its,n,r,r.length,e⟩
theorem sY {n:Nat}(h:n<=sizeLine):Builtin.List.listTooLong n=false:=by
 unfold Builtin.List.listTooLong
 exact Qj (by omega)
end
section
variable {X:Cx}
def qMI:V->List V->Hp->VK->Prop:=λx vs H Q=>∃l xs y,x=.ref l/\vs=[y]/\H l=some (.lst xs)/\xs.length<sizeLine/\Q .non (ay H l (.lst (xs++[y])))
theorem Bc:jJ X "list.append" qMI:=by
 intro pins s Z H x vs v us Q I rx rv h
 obtain⟨l,xs,y,rfl,rfl,hH,hz,q⟩:=h
 cases rx
 obtain⟨u,rfl,ru⟩:=rv.one
 obtain⟨z,its,n,r,hl,e⟩:=I.lstM hH
 refine call_meets F.slot_list_append ⟨_,e,rfl⟩ F.entry_list_append (F.args_list_append_2 _ _) (PySem.list_append l its.toArray n u (by rw [aZ];omega)) ⟨e,?_⟩
 refine⟨.non,_,I.lset (its':=its++[u]) hH e (by simp) (r.append (.cons ru .nil)) ?_,rfl,q⟩
 rw [ik,List.length_singleton]
 omega
def qMH:V->List V->Hp->VK->Prop:=λx vs H Q=>∃l b xs zs,x=.ref l/\vs=[.ref b]/\H l=some (.lst xs)/\H b=some (.lst zs)/\xs.length+zs.length<=sizeLine/\Q .non (ay H l (.lst (xs++zs)))
theorem qHU:jJ X "list.extend" qMH:=by
 intro pins s Z H x vs v us Q I rx rv h
 obtain⟨l,b,xs,zs,rfl,rfl,hH,hB,hz,q⟩:=h
 cases rx
 obtain⟨u,rfl,ru⟩:=rv.one
 cases ru
 obtain⟨z,its,n,r,hl,e⟩:=I.lstM hH
 obtain⟨z2,its2,n2,r2,hl2,e2⟩:=I.lstM hB
 have hsz:its.toArray.size+its2.toArray.size<=sizeLine:=by rw [aZ,aZ];omega
 have hlong:¬(!its.toArray.isEmpty&&Builtin.List.listTooLong (its.toArray.size+its2.toArray.size))=true:=by
  rw [sY hsz,jS]
  exact fg
 refine call_meets F.slot_list_extend ⟨_,e,rfl⟩ F.entry_list_extend (F.args_list_extend_2 _ _)
  (AutoSeq1.list_extend_list_list_0 l its.toArray n b its2.toArray n2 hlong (by rw [aZ];omega) (by omega)) ⟨e,e2,?_⟩
 refine⟨.non,_,I.lset (its':=its++its2) hH e (by simp) (r.append r2) ?_,rfl,q⟩
 rw [ik]
 omega
def qTW:V->List V->Hp->VK->Prop:=λx vs H Q=>∃l xs y,x=.ref l/\vs=[]/\H l=some (.lst xs)/\xs[xs.length - 1]?=some y/\Q y (ay H l (.lst xs.dropLast))
theorem qPD:jJ X "list.pop" qTW:=by
 intro pins s Z H x vs v us Q I rx rv h
 obtain⟨l,xs,y,rfl,rfl,hH,hy,q⟩:=h
 cases rx
 have hus:=rv.zero
 subst hus
 obtain⟨z,its,n,r,hl,e⟩:=I.lstM hH
 obtain⟨u,hu,ru⟩:=r.get hy
 have hy':its.toArray[its.toArray.size - 1]?=some u:=by
  show its.toArray[its.length - 1]?=some u
  rw [<-Array.getElem?_toList,<-hl]
  exact hu
 refine call_meets F.slot_list_pop ⟨_,e,rfl⟩ F.entry_list_pop (F.args_list_pop_1 _) (MeetsSeq.list_pop_last l its.toArray n u hy' (by rw [aZ];omega)) ⟨e,?_⟩
 refine⟨y,_,I.lset (its':=its.dropLast) hH e ?_ r.dropLast ?_,ru,q⟩
 ·show its.toArray.eraseIdxIfInBounds (its.toArray.size - 1)=its.dropLast.toArray
  rw [aZ,List.eraseIdxIfInBounds_toArray,qGM]
 ·rw [List.length_dropLast]
  omega
theorem qNj {α:Type}(xs:List α) (k:Nat):(List.replicate k xs).flatten.length=k * xs.length:=by
 induction k with
 | zero=>simp
 | succ k ih=>rw [jU,nJ,ik,ih,Nat.succ_mul,Nat.add_comm]
end
end L2
namespace Att
open PySem PySem.W PySem.Calls PyProof.Rows
theorem qC3 {P:Params}{h:Heap}:∀(ns:List Int) (vs:List Value),WellAll P h vs (ns.map WData.int)->IntsAre vs ns:=by
 intro ns
 induction ns with
 | nil =>
  intro vs w
  rw [List.map_nil] at w
  cases w
  exact .nil
 | cons n ns ih =>
  intro vs w
  rw [gd] at w
  cases w with
  | cons a b =>
   cases a
   exact .cons _ _ (ih _ b)
theorem script_of {l:OpenLaw}{n:Nat}(hn:l.most=some n) {P:Params}{h:Heap}{args:List WData}{vals:List Value}
  (hpre:l.row.toRowW.claim.pre args=true) (hwl:WellAll P h vals args) :
  ∃a vs ns,vals=[Value.ref a]/\args=[WData.list (ns.map WData.int)]/\h.get? a=some { cls:=.type "list",data:=.seq vs.toArray }/\IntsAre vs ns/\ns.length<=n:=by
 have hsh:WShape.hasAll [] args [.list .int]=true:=(pre_splitW hpre).1
 have hc:l.pre.holds [] { args:=args }=true:=(pre_splitW hpre).2
 obtain⟨d,r,rfl,h1,h2⟩:=hasAllW_cons hsh
 obtain rfl:=hasAllW_nil h2
 obtain⟨xs,rfl,h3⟩:=hasW_list h1
 obtain⟨ns,rfl⟩:=items_int h3
 have hlen:ns.length<=n:=by
  unfold OpenLaw.pre at hc
  have h4:(WTm.not (.lt (.lit (.int (n:Int))) (.len (.arg 0)))).holds [] { args:=[.list (ns.map .int)] }=true:=by
   have h4:=(holds_andW hc).1
   rw [hn] at h4
   exact h4
  have h5:=condW_of h4 (w_not (w_lt w_lit (w_len_list (w_arg rfl))))
  rw [lr] at h5
  refine Nat.le_of_not_lt λq=>?_
  have q':(n:Int)<((ns.length:Nat):Int):=by omega
  first
   | (rw [Qk q'] at h5;exact Qn h5 (by decide))
   | (simp at h5;omega)
 cases hwl with
 | cons w1 w2 =>
  cases w2
  cases w1 with
  | list ho hall=>exact⟨_,_,ns,rfl,rfl,ho,qC3 ns _ hall,hlen⟩
theorem post_true (l:OpenLaw) (args:List WData):l.row.toRowW.claim.post args (.bool true) args=true:=
 postW_of (r:=l.row.toRowW) (X:=(true == true))
  (show WShape.has [] (.bool true) .bool=true by first|rfl|decide|simp [WShape.has,WShape.arms,WShape.armsAll])
  (show (WTm.eq .res (.lit (.bool true))).value [] { args:=args,res:=some (.bool true),after:=args }=some (.bool (true == true)) from w_eq_bool (w_res rfl) w_lit) rfl
end Att
namespace L2
open PySem PySem.Spec PyProof.Rows
theorem tQ:∀{vs:List Value}{ns:List Int},IntsAre vs ns->Vals (ns.map V.int) vs
 | _,_,.nil=>.nil
 | _,_,.cons n t h=>.cons ⟨t,rfl⟩ (tQ h)
end L2
namespace L2
open PySem PySem.Spec PyProof.Rows
noncomputable abbrev dJ:f7:=λ_ _ _ _ _ _=>False
noncomputable abbrev E0:XK:=λ_ _ _=>False
theorem kj {X:Cx}:iJ dJ X E0:=λ_ _ _ _ _ _ _ h=>h.elim
structure Fun (K:Qb) (x qual:Str) (st:Stmt) (f:Addr) (fd:FuncData):Prop where
 ex:∃(oc:Value) (od:Option Addr) (kV doc pm:Value) (an:Option Addr) (cdv ct:Value) (osl:Array (Option Value)),
  fd=PySem.W.fnOf x qual (dR st) (bJ st) (av st) .none kV doc pm an cdv ct/\K.lookup f=some ⟨oc,od,.func fd,osl⟩/\PySem.W.codeIn K cdv qual=true
 kp:PySem.W.keepIn K (.ref f)=true
section
variable {P:Program}{w:World}{K:Qb}{mg:Str->Option Value}{base:Heap}
theorem Fun.binds {x qual:Str}{st:Stmt}{f:Addr}{fd:FuncData}{ps:List Str}(F:Fun K x qual st f fd)
  (h:∀(kV doc pm:Value) (an:Option Addr) (cdv ct:Value) (us:List Value),us.length=ps.length->bindArgs (PySem.W.fnOf x qual (dR st) (bJ st) (av st) .none kV doc pm an cdv ct) ⟨us,[]⟩=pure (ps.zip us)):Binds K fd ps []:=by
 obtain⟨oc,od,kV,doc,pm,an,cdv,ct,osl,rfl,lk,hcd⟩:=F.ex
 exact .all (h kV doc pm an cdv ct)
theorem iL {x qual:Str}{st:Stmt}{f:Addr}{oc:Value}{od an:Option Addr}{osl:Array (Option Value)}{kV doc pm cdv ct:Value}(l:K.lookup f=some ⟨oc,od,.func (PySem.W.fnOf x qual (dR st) (bJ st) (av st) .none kV doc pm an cdv ct),osl⟩)
  (c:PySem.W.codeIn K cdv qual=true) (k:PySem.W.keepIn K (.ref f)=true):Fun K x qual st f (PySem.W.fnOf x qual (dR st) (bJ st) (av st) .none kV doc pm an cdv ct):=⟨⟨oc,od,kV,doc,pm,an,cdv,ct,osl,rfl,l,c⟩,k⟩
end
theorem oE {A B:Prop}(h:B):if false=true then A else B:=by
 rw [Qm fg]
 exact h
theorem n9 {A B:Prop}(h:A):if true=true then A else B:=by
 rw [Ql rfl]
 exact h
def Same (H H':Hp):Prop:=∀b o,H b=some o->H' b=some o
theorem Same.refl (H:Hp):Same H H:=λ_ _ h=>h
theorem Same.trans {H H1 H2:Hp}(a:Same H H1) (b:Same H1 H2):Same H H2:=λc o h=>b c o (a c o h)
theorem Same.free {H H':Hp}(e:Same H H') {l:Addr}(h:H' l=Option.none):H l=Option.none:=by
 cases q:H l with
 | none=>rfl
 | some o =>
  rw [e l o q] at h
  cases h
end L2
namespace L2
open PySem PySem.Spec PyProof.Rows
section
variable {κ:Type} [DecidableEq κ]
noncomputable def jb (kvs:List (κ×V)) (k:κ):Option V:=(kvs.find? λkv=>decide (kv.1=k)).map (·.2)
theorem AA {p:κ×V}{r:List (κ×V)}{k:κ}(e:p.1=k):jb (p::r) k=some p.2:=by simp [jb,nH,e]
theorem Az {p:κ×V}{r:List (κ×V)}{k:κ}(e:¬p.1=k):jb (p::r) k=jb r k:=by simp [jb,nH,e]
theorem KV.val {kvs:List (κ×V)}{vs:List (κ×Value)}(r:KV kvs vs) (k:κ):RelO (jb kvs k) (valueAt vs k):=by
 unfold KV at r
 induction r with
 | nil=>exact True.intro
 | @cons p q ps qs h t ih =>
  obtain⟨h1,h2⟩:=h
  by_cases e:p.1=k
  ·have e':q.1=k:=h1.symm.trans e
   have b:valueAt (q::qs) k=some q.2:=by simp [valueAt,nH,e']
   rw [AA e,b];exact h2
  ·have e':¬q.1=k:=λz=>e (h1.trans z)
   have b:valueAt (q::qs) k=valueAt qs k:=by simp [valueAt,nH,e']
   rw [Az e,b];exact ih
end
theorem qSc {P:Program}{w:World}{k:cN}{u:Value}(r:RelV (kV k) u):(jy P w).is k u=true:=by
 cases k with
 | inl i=>obtain⟨t,e⟩:=(show ∃t,u=Value.int i t from r);subst e;exact qE5 P w i t
 | inr x=>obtain⟨t,e⟩:=(show ∃t,u=Value.str x t from r);subst e;exact qE4 P w x t
def qUo (i:Expr):Prop:=∀ov iv,subscripted i false ov iv=operate [ov,iv] (getItem ov iv)
theorem qL6 {prog:Program}{w:World}{A:Around}{E:Value->Shared->Prop}{s:Shared}{env:Env}{value slice:Expr}{pos:Pos}{T id:String}{Q:Value->Shared->Prop}
  (hl:typeLookup (.type T) "__getitem__"=pure (some (.builtin id))) (hs:qUo slice)
  (h:wpAny (model prog w) A (eval value env) (λo s₁=>wpAny (model prog w) A (eval slice env) (λi s₂=>s₂.TypeIs o T/\wpAny (model prog w) A (getItem o i) Q E s₂) E s₁) E s) :
  wpAny (model prog w) A (eval (.Subscript value slice pos) env) Q E s:=by
 refine Subscript_ (Qe h (λo s₁ h₁=>Qe h₁ (λi s₂ h₂=>?_) λ_ _ x=>x) λ_ _ x=>x)
 obtain⟨hT,h₂⟩:=h₂
 unfold subscriptTail
 refine Qc ?_
 rw [getitemInPython_of_ne hT.not_modules]
 refine Qc (wpAny_specialOf hT hl ?_)
 have fin:wpAny (model prog w) A (subscripted slice false o i) (λr s₃=>wpAny (model prog w) A (letTemporaryGo value o r >>= λ_=>pure r) Q E s₃) E s₂:=by
  rw [hs o i]
  exact wpAny_operating (Qe h₂ (λr s₃ h₃=>Qc (wpAny_letTemporaryGo (Qd h₃))) λ_ _ x=>x)
 first
  | exact Qd (Qc fin)
  | exact Qc (Qd (Qc fin))
  | exact Qc fin
end L2
namespace L2
open PySem PySem.W PySem.Calls PyProof.Rows
section
variable {X:Cx}{pins:List (Addr×Obj)}{Z:St}{H:Hp}{s:Shared}{h':Heap}
theorem Inv.tabGrow {P c:Addr}{pos:Pos}{q:Str}{ps:Array Value}{oc:Obj}{vs:Array Value}{t:Tok}{t':Nat}(I:Inv X pins Z H s) (hP:H P=some (.tab pos q)) (hx:Heap.ExtBut P s.heap h') (hc:s.heap.objs.size<=c)
  (ho:h'.get? c=some oc) (hd:oc.data=.fields vs) (hv:vs[1]?=some (.str q t)) (hp:h'.get? P=some (tabObj ps)) (ht:TriplesOk ps.toList) (hf:codeAmong pos ps.toList=some (.ref c)) :
  Inv X pins Z (ay H c (.frz oc (.own c))) { s with heap:=h',toks:=t' }:=by
 have hn:H c=none:=I.hok.fresh hc
 have nP:∀b,H b=none->b≠P:=λb n z=>by subst z;rw [hP] at n;cases n
 have u:Un X.fs [] H (ay H c (.frz oc (.own c))) s.heap h':=⟨λb o e n _ _=>hx b o (nP b n) e,λb o e n _ _=>⟨o.slots,hx b o (nP b n) e⟩,
  λb o e n _=>by rw [aD (bR (cw (Qi e) hc))];exact n,λb o e _=>by
   by_cases z:b=P
   ·subst z;exact⟨_,hp⟩
   ·exact⟨o,hx b o z e⟩,
  λb xs e=>by rw [aD (bY e hn)];exact e,λb o v e=>by rw [aD (bY e hn)];exact e,λb xs e=>⟨#[],by rw [aD (bY e hn),e];simp⟩⟩
 refine I.un u λa o e=>?_
 by_cases z:a=c
 ·subst z
  rw [cD] at e;cases e
  exact⟨ho,_,ho⟩
 ·rw [aD z] at e
  by_cases zP:a=P
  ·subst zP
   rw [hP] at e;cases e
   exact⟨ps,hp,ht,.inr ⟨c,oc,_,vs,t,hf,cD,hd,hv⟩⟩
  ·refine (I.hok a o e).stay (λb v hb q=>hx b v ?_ q) (λb q=>by rw [aD (bY q hn)];exact q) (λb xs q=>by rw [aD (bY q hn)];exact q) λb ob v _ q _=>by rw [aD (bY q hn)];exact q
   rcases hb with rfl|hb
   ·exact zP
   ·rintro rfl;rw [hP] at hb;cases hb
def ot (X:Cx) (la:Arguments) (e:Expr) (sc:Scope) (clos:List (Str×Addr)) (pos:Pos) (P:Addr):TE:=λ_ H Q=>H P=some (.tab pos (X.env.qual++"<lambda>")) /\
 ∀(f c:Addr) (oc:Obj) (vs:Array Value) (t:Tok) (ctv:Value) (H':Hp),(∀b o,H b=some o->H' b=some o)->H f=none->H' f=some (.frz (kla_obj "<lambda>" (X.env.qual++"<lambda>") la e sc clos ((X.mg "__name__").getD .none) c ctv) (.own f)) ->
   (∃u,H' c=some (.frz oc u))->oc.data=.fields vs->vs[1]?=some (.str (X.env.qual++"<lambda>") t)->(∀b o,H' b=some o->H b=some o∨∃ob u,o=.frz ob u)->Q (.ref f) H'
theorem qO7 {c P:Addr}{la:Arguments}{e:Expr}{sc:Scope}{pos:Pos}{clos:List (Str×Addr)}(hdef:defaultsOf la X.env=([],[])) (hcl:closureFor sc X.env=pure clos) (hcode:X.env.code=.ref c) (C:CodeHd X.base c P) (hb:X.base.BuiltinsAt X.mg P) :
  PE X (.Lambda la e sc pos) (ot X la e sc clos pos P):=by
 intro pins s Z H Q I ⟨hP,k⟩
 refine kla_eval hdef ?_
 obtain⟨ps,hp,ht,r⟩:=I.hok P _ hP
 have hg:=I.mod.glob.keeps I.bk
 obtain⟨bm,ob,b1,b2,b3,b4,b5,b6⟩:=hb
 have hb':s.heap.BuiltinsAt X.mg P:=⟨bm,ob,b1,b2,b3,b4,I.bk _ _ b5,b6⟩
 have hgP:mainGlobals≠P:=λz=>by
  obtain⟨o,es,ep,ho,_⟩:=I.mod.glob
  have:=(I.bs _ _ ho).2
  rw [z,hP] at this;cases this
 rcases r with hn|⟨c',oc,u,vs,t,hf,hc,hd,hv⟩
 ·refine kla_makeFunction (mg:=X.mg) hcl I.ok.glob hg hcode (C.keeps I.bk) hp ht hn hgP hb' λc' ctv h' tk hx hge hlt hrec htb=>?_
  obtain⟨c₂,oc,vs,t,e2,hoc,hd,hv⟩:=hrec
  cases e2
  have hnc:H c'=none:=I.hok.fresh hge
  have I1:=I.tabGrow (t':=tk) hP hx hge hoc hd hv htb (by rw [Array.toList_append];exact TriplesOk_snoc _ _ _ _ ht) (by rw [Array.toList_append];exact codeAmong_snoc _ ht hn)
  have hsz:s.heap.objs.size<=h'.objs.size:=dM hge (nQ hlt)
  have hfn:H h'.objs.size=none:=I.hok.fresh hsz
  have ne:c'≠h'.objs.size:=bR hlt
  have I2:=I1.laid (a:=h'.objs.size) (o:=.frz (kla_obj "<lambda>" (X.env.qual++"<lambda>") la e sc clos ((X.mg "__name__").getD .none) c' ctv) (.own h'.objs.size)) (t':=tk) (λb u e=>Qg _ e) (aK _) ⟨Qh _ rfl,_,Qh _ rfl⟩
  refine⟨.ref h'.objs.size,_,I2,rfl,k _ c' oc vs t ctv _ (λb o e=>?_) hfn cD ⟨_,(by rw [aD ne];exact cD)⟩ hd hv λb o e=>?_⟩
  ·rw [aD (bY e hfn),aD (bY e hnc)];exact e
  ·by_cases z:b=h'.objs.size
   ·subst z;rw [cD] at e;cases e;exact .inr ⟨_,_,rfl⟩
   ·rw [aD z] at e
    by_cases z:b=c'
    ·subst z;rw [cD] at e;cases e;exact .inr ⟨_,_,rfl⟩
    ·rw [aD z] at e;exact .inl e
 ·refine kla_makeFunctionHit (mg:=X.mg) hcl I.ok.glob hg hcode (C.keeps I.bk) hp ht hf hb' λctv h' tk hk hsz=>?_
  have hfn:H h'.objs.size=none:=I.hok.fresh hsz
  have I2:=I.laid (a:=h'.objs.size) (h':=h'.push { cls:=.type "function",data:=.func (kla_fn "<lambda>" (X.env.qual++"<lambda>") la e sc clos ((X.mg "__name__").getD .none) (.ref c') ctv) }) (o:=.frz (kla_obj "<lambda>" (X.env.qual++"<lambda>") la e sc clos ((X.mg "__name__").getD .none) c' ctv) (.own h'.objs.size)) (t':=tk) (λb u e=>Qg _ (hk b u e)) hsz ⟨Qh _ rfl,_,Qh _ rfl⟩
  refine⟨.ref h'.objs.size,_,I2,rfl,k _ c' oc vs t ctv _ (λb o e=>?_) hfn cD ⟨u,?_⟩ hd hv λb o e=>?_⟩
  ·rw [aD (bY e hfn)];exact e
  ·rw [aD (bY hc hfn)];exact hc
  ·by_cases z:b=h'.objs.size
   ·subst z;rw [cD] at e;cases e;exact .inr ⟨_,_,rfl⟩
   ·rw [aD z] at e;exact .inl e
end
end L2
namespace L2
open PySem PySem.W PySem.Calls PyProof.Rows
def j8 (P:Program) (w:World) (K:Frag) (mg:Str->Option Value) (base:Heap) (N:List Str) (qual:Str) (scope:Scope) (f:Addr) (cd:Value) (clos:List (Str×Addr)) (A:Around) (outer:List Env) (s:Shared) (H:Hp):Cx where
 prog:=P
 w:=w
 K:=K
 mg:=mg
 base:=base
 A:=A.deeper (envX qual scope s.heap.objs.size f cd clos)
 N:=N
 s₀:=s
 H₀:=H
 env:=envX qual scope s.heap.objs.size f cd clos
 outer:=outer
 stack:=envX qual scope s.heap.objs.size f cd clos::outer
 ex:=[]
 calm:=true
 fn:=λ_=>false
 pn:=[]
 xe:=λ_ _=>False
section
variable {P:Program}{w:World}{K:Frag}{mg:Str->Option Value}{base:Heap}{N:List Str}{name qual:Str}{params:Arguments}{body:Expr}{scope:Scope}{f c:Addr}{clos:List (Str×Addr)}{pm ctv:Value}{A:Around}{outer:List Env}{s:Shared}{H:Hp}
theorem qNl {x:Str}{v:V}{uv:Value}{t:TE}{Q:VK}{Z:St}(hf:s.heap.get? f=some (kla_obj name qual params body scope clos pm c ctv)) (hcd:s.heap.CodeRec (.ref c) qual) (hdep:A.depth<recursionLimit) (hh:A.handled=none)
  (e0:Env0 P w K mg base A outer s H) (hk:scope.kind=.function) (hco:scope.isCoroutine=false) (hgen:scope.isGenerator=false) (hcell:∀y∈scope.names,y.2≠.cell)
  (hbind:bindArgs (kla_fn name qual params body scope clos pm (.ref c) ctv) ⟨[uv],[]⟩=pure [(x,uv)]) (hloc:scope.names.lookup x=some .local) (rv:RelV v uv) (hlen:Z.length=N.length)
  (hZ:∀(i:Nat) (y:Str) (v':V),N[i]?=some y->Z[i]?=some (some v')->(y=x/\v'=v)∨(scope.names.lookup y=some .free/\∃c u,clos.lookup y=some c/\s.heap.IsCell c (some u)/\RelV v' u))
  (inj:∀y z c,clos.lookup y=some c->clos.lookup z=some c->y=z) (has:∀y,scope.names.lookup y=some .free->∃c,clos.lookup y=some c)
  (cells:∀y c,clos.lookup y=some c->(∃v,s.heap.IsCell c v)/\H c=none)
  (ht:PE (j8 P w K mg base N qual scope f (.ref c) clos A outer s H) body t) (hq:t Z H Q) :
  codeAny (model P w) A (.call (.ref f) ⟨[uv],[]⟩) (λr s'=>match r with|.ok (.ret u)=>CE outer P w H s Q u s'|_=>False) s:=by
 have lim:s.heap.NoLimit:=e0.mod.nolimit.keeps λb o e=>(e0.bs b o e).1
 refine kla_callFunE hdep hf rfl hco hgen rfl hcd ?_
 rw [hbind]
 refine Qd (wpAny_newFunctionEnv hcell (λy hy=>by obtain rfl:=yaP.mp hy;exact hloc) (λh₁ hns hsb=>?_) hk)
 have kp:∀b o,s.heap.get? b=some o->h₁.get? b=some o:=λb o e=>hsb.extBut b o (bR (Qi e)) (Qg _ e)
 refine⟨lim.keeps kp,?_⟩
 show codeAny _ _ (.expr body (envX qual scope s.heap.objs.size f (.ref c) clos)) _ _
 have I:Inv (j8 P w K mg base N qual scope f (.ref c) clos A outer s H) [] Z H { s with heap:=h₁,toks:=s.toks+[(x,uv)].length }:=by
  refine⟨⟨e0.mod,hk,rfl,rfl,aK _,inj,λy hy=>?_,λy c hy=>(nomatch hy),λ_=>hh,Around.frames_deeper e0.frames,.inr ⟨rfl,rfl⟩,λb z=>(nomatch z),e0.bs,e0.bsz,λb _ _ z=>(nomatch z),λb z=>(nomatch z),e0.funs,e0.frf⟩,
   rfl,e0.bare,Un.kept kp,⟨_,hns,λi y v' h1 h2 h3=>?_⟩,λy c h=>?_,e0.hok.fresh (aK _),λy c h=>(cells y c h).2,λp hp=>(nomatch hp),e0.hok.kept kp,hlen⟩
  ·have hy:scope.names.lookup y=some .cell∨scope.names.lookup y=some .free:=hy
   rcases hy with hy|hy
   ·exact Qn rfl (hcell _ (dj hy))
   ·exact has y hy
  ·rcases hZ i y v' h1 h2 with ⟨rfl,rfl⟩|⟨hy,c,u,e1,e2,e3⟩
   ·exact⟨uv,rv,.inl ⟨hloc,by simp⟩⟩
   ·obtain⟨o,ho,hd⟩:=e2
    exact⟨u,e3,.inr ⟨.inr hy,c,e1,o,kp _ _ ho,hd⟩⟩
  ·obtain⟨v,o,ho,hd⟩:=(cells y c h).1
   exact⟨v,o,kp _ _ ho,hd⟩
 exact kla_codeExpr (Qe (ht [] _ Z H Q I hq) (λu s' ⟨v',H',J,r,q⟩=>⟨v',H',J.os,J.bare,J.base,J.hok,r,q⟩) λ_ _ z=>z.elim)
end
end L2
namespace L2
open PySem PySem.W PySem.Calls PyProof.Rows
noncomputable def bT (H:Hp) (cs:List (Addr×Obj)):Hp:=λa=>match cs.lookup a with
 | some o=>some (.frz o (.own a))
 | none=>H a
noncomputable def bN (H:Hp) (cs:List (Addr×Obj)):Hp:=λa=>match cs.lookup a with
 | some _=>none
 | none=>H a
section
variable {P:Program}{w:World}{H H':Hp}{h:Heap}{cs:List (Addr×Obj)}{a:Addr}{o:Obj}
theorem gR (e:cs.lookup a=some o):bT H cs a=some (.frz o (.own a)):=by unfold bT;rw [e]
theorem du (e:cs.lookup a=none):bT H cs a=H a:=by unfold bT;rw [e]
theorem jA (e:cs.lookup a=some o):bN H cs a=none:=by unfold bN;rw [e]
theorem cJ (e:cs.lookup a=none):bN H cs a=H a:=by unfold bN;rw [e]
def yA (o:HO):Prop:=∀ob u v,o=.frz ob u->ob.data≠.cell v
def fP (cs:List (Addr×Obj)):Prop:=∀a o,cs.lookup a=some o->∃v,o.data=.cell v
def cP (H:Hp) (cs:List (Addr×Obj)):Prop:=∀a o,cs.lookup a=some o->H a=some (.frz o (.own a))
theorem qJZ (C:fP cs) (I:cP H cs) {x:HO}(e:H a=some x) (n:yA x):cs.lookup a=none:=by
 cases k:cs.lookup a with
 | none=>rfl
 | some o =>
  rw [I a o k] at e
  cases e
  obtain⟨v,hv⟩:=C a o k
  exact Qn hv (n o _ v rfl)
theorem tN (C:fP cs) (I:cP H cs) {x:HO}(e:H a=some x) (n:yA x):bN H cs a=some x:=by rw [cJ (qJZ C I e n)];exact e
theorem HOk.off (k:HOk P w H h) (C:fP cs) (I:cP H cs):HOk P w (bN H cs) h:=by
 intro a o e
 cases z:cs.lookup a with
 | some ob=>rw [jA z] at e;cases e
 | none =>
  rw [cJ z] at e
  refine (k a o e).stay (λb u _ q=>q) (λb q=>tN C I q (λ_ _ _ r=>by cases r)) (λb xs q=>tN C I q (λ_ _ _ r=>by cases r)) λb ob u vs q d=>tN C I q λob' u' v r d'=>?_
  cases r
  rw [d] at d'
  cases d'
theorem HOk.on (k:HOk P w H h) (n:∀a o,cs.lookup a=some o->H a=none/\h.get? a=some o):HOk P w (bT H cs) h:=by
 have kp:∀b x,H b=some x->bT H cs b=some x:=λb x e=>by
  cases z:cs.lookup b with
  | some ob=>rw [(n b ob z).1] at e;cases e
  | none=>rw [du z];exact e
 intro a o e
 cases z:cs.lookup a with
 | some ob =>
  rw [gR z] at e
  cases e
  exact⟨(n a ob z).2,ob,(n a ob z).2⟩
 | none =>
  rw [du z] at e
  exact (k a o e).stay (λb u _ q=>q) (λb q=>kp _ _ q) (λb xs q=>kp _ _ q) λb ob u vs q _=>kp _ _ q
end
section
variable {P:Program}{w:World}{H:Hp}{s s':Shared}{cs:List (Addr×Obj)}{outer:List Env}{Q:VK}{u:Value}
theorem qSA (k:HOk P w H s.heap) (C:fP cs) (I:cP H cs) (nf:∀a o,cs.lookup a=some o->a∉eQ outer) (c:CE outer P w (bN H cs) s (λv H'=>(∀a o,cs.lookup a=some o->H' a=none)->Q v (bT H' cs)) u s'):CE outer P w H s Q u s':=by
 obtain⟨v,H',os,bare,un,hok,r,q⟩:=c
 have at0:∀a o,cs.lookup a=some o->s.heap.get? a=some o:=λa o e=>(k a _ (I a o e)).1
 have ne:∀{b x},H b=some x->(∀a o,cs.lookup a=some o->x≠.frz o (.own a))->cs.lookup b=none:=λ{b x} e n=>by
  cases z:cs.lookup b with
  | none=>rfl
  | some o=>rw [I b o z] at e;cases e;exact Qn rfl (n b o z)
 have no:∀{b},H b=none->cs.lookup b=none:=λ{b} e=>by
  cases z:cs.lookup b with
  | none=>rfl
  | some o=>rw [I b o z] at e;cases e
 refine⟨v,bT H' cs,os,bare,⟨λb o e n f x=>un.keep b o e (by rw [cJ (no n)];exact n) f x,λb o e n f x=>un.slot b o e (by rw [cJ (no n)];exact n) f x,λb o e n x=>?_,un.there,λb xs e=>?_,λb o w' e=>?_,λb ps e=>?_⟩,?_,r,q λa o e=>un.free a o (at0 a o e) (jA e) (by simp)⟩
 ·rw [du (no n)];exact un.free b o e (by rw [cJ (no n)];exact n) x
 ·have z:=ne e (λa o _ r=>by cases r)
  rw [du z];exact un.tups b xs (by rw [cJ z];exact e)
 ·cases z:cs.lookup b with
  | some ob =>
   rw [I b ob z] at e
   cases e
   exact gR z
  | none=>rw [du z];exact un.frzs b o w' (by rw [cJ z];exact e)
 ·have z:=ne e (λa o _ r=>by cases r)
  obtain⟨m,e2⟩:=un.tbls b ps (by rw [cJ z];exact e)
  exact⟨m,by rw [du z];exact e2⟩
 ·refine hok.on λa o e=>?_
  have g:=at0 a o e
  exact⟨un.free a o g (jA e) (by simp),un.keep a o g (jA e) (nf a o e) (by simp)⟩
theorem qQm (C:fP cs) (n:∀a o,cs.lookup a=some o->H a=none/\s.heap.get? a=some o) (c:CE outer P w (bT H cs) s (λv H'=>cP H' cs->Q v (bN H' cs)) u s'):CE outer P w H s Q u s':=by
 obtain⟨v,H',os,bare,un,hok,r,q⟩:=c
 have I:cP H' cs:=λa o e=>un.frzs a o _ (gR e)
 have ne:∀{b x},H b=some x->cs.lookup b=none:=λ{b x} e=>by
  cases z:cs.lookup b with
  | none=>rfl
  | some o=>rw [(n b o z).1] at e;cases e
 refine⟨v,bN H' cs,os,bare,⟨λb o e m f x=>?_,λb o e m f x=>?_,λb o e m x=>?_,un.there,λb xs e=>?_,λb o w' e=>?_,λb ps e=>?_⟩,hok.off C I,r,q I⟩
 ·cases z:cs.lookup b with
  | none=>exact un.keep b o e (by rw [du z];exact m) f x
  | some ob =>
   have e2:=(n b ob z).2
   rw [e] at e2
   cases e2
   exact (hok b _ (I b o z)).1
 ·cases z:cs.lookup b with
  | none=>exact un.slot b o e (by rw [du z];exact m) f x
  | some ob =>
   have e2:=(n b ob z).2
   rw [e] at e2
   cases e2
   exact⟨o.slots,(hok b _ (I b o z)).1⟩
 ·cases z:cs.lookup b with
  | none=>rw [cJ z];exact un.free b o e (by rw [du z];exact m) x
  | some ob=>exact jA z
 ·have z:=ne e
  rw [cJ z];exact un.tups b xs (by rw [du z];exact e)
 ·have z:=ne e
  rw [cJ z];exact un.frzs b o w' (by rw [du z];exact e)
 ·have z:=ne e
  obtain⟨m,e2⟩:=un.tbls b ps (by rw [du z];exact e)
  exact⟨m,by rw [cJ z];exact e2⟩
end
end L2
namespace L2
open PySem PySem.W PySem.Calls PyProof.Rows
section
variable {X:Cx}{pins:List (Addr×Obj)}{τ:St}{H:Hp}{s:Shared}{cs:List (Addr×Obj)}{Q:VK}
theorem Inv.env0off (I:Inv X pins τ H s) (C:fP cs) (CI:cP H cs):Env0 X.prog X.w X.K X.mg X.base X.A X.stack s (bN H cs):=by
 have e:=I.env0
 have nn:∀b,H b=none->bN H cs b=none:=λb n=>by
  cases z:cs.lookup b with
  | some o=>exact jA z
  | none=>rw [cJ z];exact n
 exact⟨e.frames,e.mod,λb o q=>⟨(e.bs b o q).1,nn b (e.bs b o q).2⟩,e.bsz,e.funs,λb q=>nn b (e.frf b q),e.hok.off C CI,e.bare⟩
theorem qME {N:List Str}{name qual:Str}{params:Arguments}{body:Expr}{scope:Scope}{f c:Addr}{clos:List (Str×Addr)}{pm ctv:Value}{oc:Obj}{uf uc:HO}{vs:Array Value}{t0:Tok}{x:Str}{v:V}{uv:Value}{t:TE}{Z:St}
  (I:Inv X pins τ H s) (hdep:X.A.depth<recursionLimit) (hh:X.A.handled=none) (hf:H f=some (.frz (kla_obj name qual params body scope clos pm c ctv) uf)) (hc:H c=some (.frz oc uc)) (hd:oc.data=.fields vs) (hv:vs[1]?=some (.str qual t0))
  (C:fP cs) (CI:cP H cs) (hcl:∀y a,clos.lookup y=some a->∃o,cs.lookup a=some o)
  (hk:scope.kind=.function) (hco:scope.isCoroutine=false) (hgen:scope.isGenerator=false) (hcell:∀y∈scope.names,y.2≠.cell)
  (hbind:bindArgs (kla_fn name qual params body scope clos pm (.ref c) ctv) ⟨[uv],[]⟩=pure [(x,uv)]) (hloc:scope.names.lookup x=some .local) (rv:RelV v uv) (hlen:Z.length=N.length)
  (hZ:∀(i:Nat) (y:Str) (v':V),N[i]?=some y->Z[i]?=some (some v')->(y=x/\v'=v)∨(scope.names.lookup y=some .free/\∃a o u,clos.lookup y=some a/\cs.lookup a=some o/\o.data=.cell (some u)/\RelV v' u))
  (inj:∀y z a,clos.lookup y=some a->clos.lookup z=some a->y=z) (has:∀y,scope.names.lookup y=some .free->∃a,clos.lookup y=some a)
  (ht:PE (j8 X.prog X.w X.K X.mg X.base N qual scope f (.ref c) clos X.A X.stack s (bN H cs)) body t) (hq:t Z (bN H cs) λv H'=>(∀a o,cs.lookup a=some o->H' a=none)->Q v (bT H' cs)) :
  wpAny (model X.prog X.w) X.A (call (.ref f) [uv]) (EP X pins τ Q) X.xe s:=by
 have gc:∀a o,cs.lookup a=some o->s.heap.get? a=some o:=λa o e=>(I.hok a _ (CI a o e)).1
 refine wpAny_call (codeAny_mono (qNl (H:=bN H cs) (I.hok f _ hf).1 ⟨c,oc,vs,t0,rfl,(I.hok c _ hc).1,hd,hv⟩ hdep hh (I.env0off C CI) hk hco hgen hcell hbind hloc rv hlen (λi y v' h1 h2=>?_) inj has (λy a e=>?_) ht hq) λr s' h=>?_)
 ·rcases hZ i y v' h1 h2 with z|⟨z,a,o,u,e1,e2,e3,e4⟩
  ·exact .inl z
  ·exact .inr ⟨z,a,u,e1,⟨o,gc a o e2,e3⟩,e4⟩
 ·obtain⟨o,e2⟩:=hcl y a e
  obtain⟨w',e3⟩:=C a o e2
  exact⟨⟨w',o,gc a o e2,e3⟩,jA e2⟩
 ·cases r with
  | error e=>exact h.elim
  | ok fl =>
   cases fl with
   | ret u=>exact I.after (qSA I.hok C CI (λa o e hb=>by have:=I.stkFree a hb;rw [CI a o e] at this;cases this) h)
   | next=>exact h.elim
   | brk=>exact h.elim
   | cont=>exact h.elim
theorem qMD {CX:f7}{k:Nat}{f:Addr}{fd:FuncData}{ps:List Str}{sp:Sp}{E:XK}{us:List Value}{vs:List V}(F:FnOk X.prog X.w X.K X.mg X.base CX k f fd ps sp) (hr:Room k X.A) (hb:Binds X.K fd ps []) (hE:∀outer H s E e s',¬CX outer H s E e s')
  (I:Inv X pins τ H s) (r:Vals vs us) (C:fP cs) (n:∀a o,cs.lookup a=some o->H a=none/\s.heap.get? a=some o) (nb:∀a o,cs.lookup a=some o->X.base.get? a=none) (nf:∀a o,cs.lookup a=some o->a∉eQ X.stack)
  (h:sp vs (bT H cs) (λv H'=>cP H' cs->Q v (bN H' cs)) E):wpAny (model X.prog X.w) X.A (call (.ref f) us) (EP X pins τ Q) X.xe s:=by
 have hl:us.length=ps.length:=by rw [<-r.length];exact F.len _ _ _ _ h
 have e:=I.env0
 have no:∀b,H b=none->cs.lookup b=none->bT H cs b=none:=λb m z=>by rw [du z];exact m
 have e0:Env0 X.prog X.w X.K X.mg X.base X.A X.stack s (bT H cs):=⟨e.frames,e.mod,λb o q=>⟨(e.bs b o q).1,no b (e.bs b o q).2 (by
   cases z:cs.lookup b with
   | none=>rfl
   | some ob=>rw [nb b ob z] at q;cases q)⟩,e.bsz,e.funs,λb q=>no b (e.frf b q) (by
   cases z:cs.lookup b with
   | none=>rfl
   | some ob=>exact Qn q (nf b ob z)),e.hok.on n,e.bare⟩
 refine wpAny_call (codeAny_mono (F.run X.A X.stack s (bT H cs) ⟨us,[]⟩ us vs _ E hr e0 (by have:=hb s us I.kIn (by simpa using hl);simpa using this) r h) λr s' hq=>?_)
 cases r with
 | error e=>exact Qn hq (hE _ _ _ _ _ _)
 | ok fl =>
  cases fl with
  | ret u=>exact I.after (qQm C n hq)
  | next=>exact False.elim hq
  | brk=>exact False.elim hq
  | cont=>exact False.elim hq
end
end L2
namespace L2
open PySem PySem.W PySem.Calls PyProof.Rows
section
variable {X:Cx}{pins:List (Addr×Obj)}{τ:St}{H:Hp}{s:Shared}{Q:VK}
structure CsOk (X:Cx) (τ:St) (H:Hp) (clos:List (Str×Addr)) (cs:List (Addr×Obj)):Prop where
 cell:fP cs
 non:∀a o,cs.lookup a=some o->H a=none
 has:∀y b,clos.lookup y=some b->∃o,cs.lookup b=some o
 inj:∀y z b,clos.lookup y=some b->clos.lookup z=some b->y=z
 val:∀(i:Nat) (y:Str) (v:V) (b:Addr),X.N[i]?=some y->τ[i]?=some (some v)->jI X.env.scope y->clos.lookup y=some b->∃o u,cs.lookup b=some o/\o.data=.cell (some u)/\RelV v u
theorem tT {a b:Addr}{o:Obj}{cs:List (Addr×Obj)}:((b,o)::cs).lookup a=if a=b then some o else cs.lookup a:=by
 rw [gf]
 by_cases e:a=b
 ·subst e;simp
 ·rw [Qm e]
  have:(a == b)=false:=by simpa using e
  rw [this]
theorem Ag (I:Inv X pins τ H s):∀(clos:List (Str×Addr)),(∀p∈clos,X.env.cells.lookup p.1=some p.2)->∃cs:List (Addr×Obj),fP cs/\(∀a o,cs.lookup a=some o->s.heap.get? a=some o/\∃y,X.env.cells.lookup y=some a)/\∀p∈clos,∃o,cs.lookup p.2=some o
 | [],_=>⟨[],λa o e=>(nomatch e),λa o e=>(nomatch e),λp h=>(nomatch h)⟩
 | (y,b)::clos,h=>by
  obtain⟨cs,h1,h2,h3⟩:=Ag I clos λp hp=>h p (dq _ hp)
  have hb:=h (y,b) dF
  obtain⟨v,o,ho,hd⟩:=I.cell y b hb
  refine⟨(b,o)::cs,λa o' e=>?_,λa o' e=>?_,λp hp=>?_⟩
  ·rw [tT] at e
   split at e
   ·cases e;exact⟨v,hd⟩
   ·exact h1 a o' e
  ·rw [tT] at e
   split at e
   ·rename_i z;cases e;subst z;exact⟨ho,y,hb⟩
   ·exact h2 a o' e
  ·rw [tT]
   split
   ·exact⟨_,rfl⟩
   ·rename_i z
    rcases yaf.mp hp with e|e
    ·subst e;exact Qn rfl z
    ·exact h3 p e
theorem qNH (I:Inv X pins τ H s) {clos:List (Str×Addr)}(hc:∀p∈clos,X.env.cells.lookup p.1=some p.2) (hk:∀y b,clos.lookup y=some b->X.env.kindOf y=some .cell∨X.env.kindOf y=some .free) :
  ∃cs,CsOk X τ H clos cs/\(∀a o,cs.lookup a=some o->s.heap.get? a=some o/\H a=none)/\∀a o,cs.lookup a=some o->∃y,X.env.cells.lookup y=some a:=by
 obtain⟨cs,h1,h2,h3⟩:=Ag I clos hc
 have non:∀a o,cs.lookup a=some o->H a=none:=λa o e=>by obtain⟨_,y,hy⟩:=h2 a o e;exact I.freeC y a hy
 refine⟨cs,⟨h1,non,λy b e=>h3 (y,b) (dj e),λy z b e1 e2=>I.ok.inj y z b (hc (y,b) (dj e1)) (hc (z,b) (dj e2)),λi y v b e1 e2 e3 e4=>?_⟩,λa o e=>⟨(h2 a o e).1,non a o e⟩,λa o e=>(h2 a o e).2⟩
 obtain⟨o,eo⟩:=h3 (y,b) (dj e4)
 obtain⟨m,hm,hl⟩:=I.loc
 obtain⟨u,ru,lk⟩:=hl i y v e1 e2 e3
 have hb:=hc (y,b) (dj e4)
 rcases lk with ⟨kl,_⟩|⟨kc,c,ec,o2,ho2,hd2⟩
 ·rcases hk y b e4 with z|z
  ·rw [show X.env.kindOf y=some .local from kl] at z;cases z
  ·rw [show X.env.kindOf y=some .local from kl] at z;cases z
 ·have hb:X.env.cells.lookup y=some b:=hb
  rw [hb] at ec
  cases ec
  have:=(h2 b o eo).1
  rw [ho2] at this
  cases this
  exact⟨_,u,eo,hd2,ru⟩
end
section
variable {X:Cx}{CX:f7}{k:Nat}{f P c:Addr}{fd:FuncData}{ps:List Str}{sp:Sp}{E:XK}{x:Str}{p pos lp:Pos}{e1 e2 le:Expr}{t1 t2:TE}{la:Arguments}{lsc:Scope}{clos:List (Str×Addr)}
def qOp (X:Cx) (sp:Sp) (E:XK) (t1 t2:TE) (la:Arguments) (le:Expr) (lsc:Scope) (clos:List (Str×Addr)) (lp:Pos) (P:Addr):TE:=fun τ H Q =>
 t1 τ H λv1 H1=>t2 τ H1 λv2 H2=>ot X la le lsc clos lp P τ H2 λvf H3=>∀cs,CsOk X τ H3 clos cs->sp [v1,v2,vf] (bT H3 cs) (λv H'=>cP H' cs->Q v (bN H' cs)) E
theorem qJS (F:FnOk X.prog X.w X.K X.mg X.base CX k f fd ps sp) (hr:Room k X.A) (hg:Gl X x) (hm:X.mg x=some (.ref f)) (hk:PySem.W.keepIn X.K (.ref f)=true) (hb:Binds X.K fd ps []) (hE:∀outer H s E e s',¬CX outer H s E e s')
  (hc:X.Ok->∀p∈clos,X.env.cells.lookup p.1=some p.2) (hkc:∀y b,clos.lookup y=some b->X.env.kindOf y=some .cell∨X.env.kindOf y=some .free) (hst:∀y,X.fn y=true)
  (hdb:(x == ("__debug__":Str))=false) (hs1:starEach [e1,e2,.Lambda la le lsc lp] X.env=(false,eval e1 X.env)::starEach [e2,.Lambda la le lsc lp] X.env) (hpl:(backTo pos (starEach [e2,.Lambda la le lsc lp] X.env)).any (·.1)=false)
  (hp:PA X [e1,e2,.Lambda la le lsc lp] (fun τ H Q=>t1 τ H λv1 H1=>t2 τ H1 λv2 H2=>ot X la le lsc clos lp P τ H2 λvf H3=>Q [v1,v2,vf] H3)) :
  PE X (.Call (.Name x p) [e1,e2,.Lambda la le lsc lp] [] pos) (qOp X sp E t1 t2 la le lsc clos lp P):=by
 intro pins s Z H Q I h
 refine wpAny_Call_Name_kw (kL (pos:=p) I hg hm ?_ hdb)
 refine nK (h₀:=X.base) I.ok.mod.kin hk (aB (hp pos pins s Z H (λvs H3=>∀cs,CsOk X Z H3 clos cs->sp vs (bT H3 cs) (λv H'=>cP H' cs->Q v (bN H' cs)) E) I h) λus s1 ⟨vs,H1,I1,r,q⟩=>⟨I1.kIn,?_⟩) hs1 hpl
 obtain⟨cs,ok,at0,cl⟩:=qNH I1 (hc I1.ok) hkc
 refine qMD F hr hb hE I1 r ok.cell (λa o e=>⟨(at0 a o e).2,(at0 a o e).1⟩) (λa o e=>?_) (λa o e hb=>?_) (q cs ok)
 ·obtain⟨y,hy⟩:=cl a o e
  have hge:=I1.ok.cab y a (hst y) hy
  cases z:X.base.get? a with
  | none=>rfl
  | some ob=>exact Qn (cw (Qi z) (dM I1.ok.bsz hge)) (fh _)
 ·obtain⟨y,hy⟩:=cl a o e
  have hge:=I1.ok.cab y a (hst y) hy
  have hne:=I1.cne y a hy
  rcases I1.ok.stk with z|⟨z,z2⟩
  ·rw [z] at hb
   obtain⟨_,o',ho',_⟩:=I1.ok.funs.mem hb
   exact Qn (cw (Qi ho') hge) (fh _)
  ·rw [z] at hb
   have hb:a∈eQ (X.env::X.outer):=hb
   unfold eQ at hb
   rw [nL,z2] at hb
   rcases yaf.mp hb with q|q
   ·exact hne q
   ·obtain⟨_,o',ho',_⟩:=I1.ok.funs.mem q
    exact Qn (cw (Qi ho') hge) (fh _)
end
end L2
namespace Dw
open PySem L2
structure LamD where
 la:Arguments
 e:Expr
 sc:Scope
 pos:Pos
 q:Str
 P:Addr
noncomputable def rj:LamD:=⟨⟨[],[⟨"told",none,⟨90,36,90,40⟩⟩],none,[],[],none,[]⟩,.Call (.Name "want_word" ⟨90,42,90,51⟩) [.Name "want" ⟨90,52,90,56⟩,.Name "told" ⟨90,58,90,62⟩,.Name "beat" ⟨90,64,90,68⟩] [] ⟨90,42,90,69⟩,{ kind:=.function,names:=[("told",.local),("beat",.free),("want",.free),("want_word",.globalImplicit)],isGenerator:=false,isCoroutine:=false,more:=[] },⟨90,29,90,69⟩,"want_cut.<locals>.<lambda>",217⟩
def lamX:List (Nat×LamD):=[(97,rj)]
def tbs:List (Addr×Pos×Str):=lamX.map λp=>(p.2.P,p.2.pos,p.2.q)
def TB (H:Hp):Prop:=∀t∈tbs,H t.1=some (.tab t.2.1 t.2.2)
theorem TB.same {H H':Hp}(h:TB H) (s:Same H H'):TB H':=λt m=>s _ _ (h t m)
end Dw
namespace Dw
open PySem PySem.Spec PyProof.Rows L2
def hV (lo st:Int) (n:Nat):It:={ go:=λi _=>i<n,yld:=λi H x H'=>H'=H/\x=V.int (lo+(i:Nat) * st),stop:=λi _=>n<=i }
theorem yQ (a b c:Int):Builtin.Range.rangeSize a b c=fj a b c:=rfl
theorem yP (a b c:Int) (h:c≠0):0<=fj a b c/\fj a b c<=(b - a).natAbs:=by
 unfold fj
 split
 ·split
  ·have h1:0<=(b - a - 1) / c:=Int.ediv_nonneg (by omega) (by omega)
   have h2:(b - a - 1) / c<=b - a - 1:=Int.ediv_le_self _ (by omega)
   omega
  ·omega
 ·split
  ·have h1:0<=(a - b - 1) / -c:=Int.ediv_nonneg (by omega) (by omega)
   have h2:(a - b - 1) / -c<=a - b - 1:=Int.ediv_le_self _ (by omega)
   omega
  ·omega
theorem qHz (h1:-(2^62)<=a) (h2:a<2^62) (h3:-(2^62)<=b) (h4:b<2^62) (h5:c≠0) (h6:c.natAbs<2^30):Builtin.Range.small a b c=true:=by
 have hb:=yP a b c h5
 unfold Builtin.Range.small
 rw [yQ]
 generalize fj a b c=z at hb
 have f:∀x:Int,-(2^63)<=x->x<2^63->Builtin.Range.rangeFitsLong x=true:=by
  intro x p q
  simp [Builtin.Range.rangeFitsLong];omega
 rw [f a (by omega) (by omega),f b (by omega) (by omega),f c (by omega) (by omega),f z (by omega) (by omega)]
 simp only [Bool.true_and,dD]
 right
 split
 ·exact f _ (by omega) (by omega)
 ·exact f _ (by omega) (by omega)
theorem tw {K:Qb}{tg:Expr}(j:Addr) (lo st:Int) (n:Nat):Turn P w K tg (hV lo st n) [j] j (λi h=>IsRangeIter h j (lo+(i:Nat) * st) ((n:Int) - (i:Nat)) st) where
 mem:=by simp
 obj:=λi h y b hb=>by
  have e:b=j:=by simpa using hb
  subst e
  exact⟨_,y,λv z=>by
   have z':Data.fields _=Data.cell v:=z
   cases z'⟩
 keep:=λi h h' y k=>k j (by simp) _ y
 item:=by
  intro X hP hw hK hc i pins s Z H E I hf y hg
  subst hP hw hK
  obtain⟨u0,u1,u2,u3,u4,u5⟩:=hf j (by simp)
  have W:=Walks.range (prog:=X.prog) (w:=X.w) (I.ok.hd hc) j lo st n
  refine W.item i s _ _ hg y λv h' tk hv y' kk=>?_
  obtain⟨t,rfl⟩:=hv
  have J:Inv X pins Z H { s with heap:=h',toks:=tk }:=I.turned (λb o hb e=>kk b o (by simpa using hb) e) u0 u1 u3 u4 u5
  exact⟨_,rfl,lM (s:={ s with heap:=h',toks:=tk }) (n:="range_iterator") y' rfl rfl (by decide) ⟨.int (lo+i * st),H,J,⟨t,rfl⟩,⟨rfl,rfl⟩,y',λb hb=>(hf b hb).1⟩⟩
 done:=by
  intro X hP hw hK hc i pins s Z H E I hf y hg
  subst hP hw hK
  obtain⟨u0,u1,u2,u3,u4,u5⟩:=hf j (by simp)
  exact wpAny_pyNext_range_end (I.ok.hd hc) y (by have:n<=i:=hg;omega) λh' eb=>⟨rfl,I.turned (t':=s.toks) (λb o hb e=>eb b o hb e) u0 u1 u3 u4 u5⟩
 self:=λ_ _ _ _ _ y h=>wpAny_pyIter_rangeiter y h
section
variable {X:Cx}{tg:Expr}
theorem qOr {R:It->Hp->Prop}{E:Value->Shared->Prop}{lo hi st:Int}{t u v:Tok}{tk:Nat}(I:L2.Inv X pins Z H s) (h1:-(2^62)<=lo) (h2:lo<2^62) (h3:-(2^62)<=hi) (h4:hi<2^62) (h5:st≠0) (h6:st.natAbs<2^30)
  (q:R (hV lo st (fj lo hi st).toNat) H):wpAny (model X.prog X.w) X.A (pyIter (.ref s.heap.objs.size)) (mW X pins Z tg R) E { s with heap:=s.heap.push { cls:=.type "range",data:=.fields #[.int lo t,.int hi u,.int st v] },toks:=tk }:=by
 refine wpAny_pyIter_range (IsRange.new ..) (qHz h1 h2 h3 h4 h5 h6) ?_
 have J:Inv X pins Z H { s with heap:=s.heap.push { cls:=.type "range",data:=.fields #[.int lo t,.int hi u,.int st v] },toks:=tk }:=I.kept λb o e=>Qg _ e
 refine⟨(s.heap.push { cls:=.type "range",data:=.fields #[.int lo t,.int hi u,.int st v] }).objs.size,[(s.heap.push { cls:=.type "range",data:=.fields #[.int lo t,.int hi u,.int st v] }).objs.size],_,_,H,rfl,
  J.kept (t':=tk) λb o e=>Qg _ e,tw _ lo st (fj lo hi st).toNat,?_,λb hb=>?_,q⟩
 ·have e1:lo+((0:Nat):Int) * st=lo:=by simp
  have e2:(((fj lo hi st).toNat:Nat):Int) - ((0:Nat):Int)=Builtin.Range.rangeSize lo hi st:=by
   have:=yP lo hi st h5
   rw [yQ];omega
  show IsRangeIter _ _ (lo+((0:Nat):Int) * st) ((((fj lo hi st).toNat:Nat):Int) - ((0:Nat):Int)) st
  rw [e1,e2]
  exact Qh _ rfl
 ·have e:b=(s.heap.push { cls:=.type "range",data:=.fields #[.int lo t,.int hi u,.int st v] }).objs.size:=by simpa using hb
  subst e
  exact J.fpOk (aK _) (J.hok.fresh (aK _))
def qSi (ta:TA):TI:=fun Z H R=>ta Z H λvs H1=>∃i j c:Int,vs=[.int i,.int j,.int c]/\(-(2^62)<=i/\i<2^62/\-(2^62)<=j/\j<2^62/\c≠0/\c.natAbs<2^30)/\R (hV i c (fj i j c).toNat) H1
theorem qHR (x y:Int) (h:y.natAbs<2^30):Builtin.divisionGoesByPylong x y=false:=by
 unfold Builtin.divisionGoesByPylong
 simp only [Bool.and_eq_false_iff,decide_eq_false_iff_not]
 left
 split
 ·decide
 ·have:y.natAbs.log2<30:=by
   by_cases h0:y.natAbs=0
   ·rw [h0];decide
   ·exact (nM h0).mpr h
  omega
theorem qHJ {ta:TA}{p pos:Pos}(hg:Gl X "range") (hm:X.mg "range"=none) (ha:PA X [a,b,c] ta) (hs:starEach [a,b,c] X.env=[(false,eval a X.env),(false,eval b X.env),(false,eval c X.env)]) (hs2:starEach [b,c] X.env=[(false,eval b X.env),(false,eval c X.env)]) :
  PI X tg (.Call (.Name "range" p) [a,b,c] [] pos) (qSi ta):=by
 intro pins s Z H R I h
 refine Call_ (gz I hg hm boot_range (ie (aB (ha pos pins s Z H _ I h) λus s1 ⟨vs,H1,J,r1,q1⟩=>?_) (by rw [hs,hs2]) (by rw [hs2];rfl)))
 obtain⟨i,j,k,e,⟨q1,q2,q3,q4,q5,q6⟩,q⟩:=q1
 subst e
 cases r1 with
 | cons r rr =>
  cases rr with
  | cons r' rr =>
   cases rr with
   | cons r'' rr =>
    cases rr
    obtain⟨t,rfl⟩:=r
    obtain⟨t',rfl⟩:=r'
    obtain⟨t'',rfl⟩:=r''
    exact call_range_3 q5 (qOr J q1 q2 q3 q4 q5 q6 q) (.inl (qHR _ _ q6))
end
end Dw
namespace Dw
open PySem PySem.Spec PyProof.Rows L2
section
variable {prog:Program}{w:World}{A:Around}{E:Value->Shared->Prop}{s:Shared}
theorem qGu:isSubtype (.type "range_iterator") (.type "reversed")=pure false:=by rw [isSubtype_type];kernel_rfl
noncomputable def ja (N:Nat):Obj:={ cls:=.type "range_iterator",data:=.fields #[rawInt ((N:Int) - 1),rawInt (N:Int),rawInt (-1)] }
theorem zY (n:Int):Builtin.Range.rangeSize 0 n 1=(n.toNat:Int):=by
 unfold Builtin.Range.rangeSize
 rw [Ql (by omega)]
 split<;>omega
theorem qJG (hr:IsRange s.heap r a b c t u v) (h:Q (a,b,c) s):wpAny (model prog w) A (Builtin.Range.rangeFields (.ref r)) Q E s:=by
 unfold Builtin.Range.rangeFields
 refine Qc (Qf hr rfl (x:=.int a t) rfl ?_)
 refine Qc (wpAny_of_eq (a:=some a) rfl ?_)
 refine Qc (Qf hr rfl (x:=.int b u) rfl ?_)
 refine Qc (wpAny_of_eq (a:=some b) rfl ?_)
 refine Qc (Qf hr rfl (x:=.int c v) rfl ?_)
 refine Qc (wpAny_of_eq (a:=some c) rfl ?_)
 exact Qd h
theorem qMA (hr:IsRange s.heap r 0 n 1 t u v) (h1:-(2^62)<=n) (h2:n<2^62)
  (h:Q (.ref s.heap.objs.size) { s with heap:=s.heap.push (ja n.toNat) }):wpAny (model prog w) A (call (.builtin "range.__reversed__") [.ref r]) Q E s:=by
 have hT:s.TypeIs (.ref r) "range":=⟨_,hr,rfl⟩
 refine wpAny_call_entry F.slot_range_reversed hT F.entry_range_reversed ?_ (F.args_range_reversed_1 _)
 unfold Builtin.«range.__reversed__»
 refine Qc (wpAny_of_eq (a:=Value.ref r) rfl ?_)
 refine Qc (qJG hr ?_)
 have f:∀x:Int,-(2^63)<=x->x<2^63->Builtin.Range.rangeFitsLong x=true:=by
  intro x p q
  simp [Builtin.Range.rangeFitsLong];omega
 have hs:(Builtin.Range.rangeFitsLong 0&&Builtin.Range.rangeFitsLong n&&Builtin.Range.rangeFitsLong 1&&Builtin.Range.rangeFitsLong (-1)&&Builtin.Range.rangeFitsLong (0 - 1)&&Builtin.Range.rangeFitsLong (Builtin.Range.rangeSize 0 n 1))=true:=by
  rw [zY,f 0 (by omega) (by omega),f n (by omega) (by omega),f 1 (by omega) (by omega),f (-1) (by omega) (by omega),f (0 - 1) (by omega) (by omega),f _ (by omega) (by omega)];rfl
 simp only [hs,Bool.not_true,ly,if_false,if_true]
 refine Qc (wpAny_newObj_type (Qd ⟨_,rfl,?_⟩))
 have e:ja n.toNat={ cls:=.type "range_iterator",data:=.fields [rawInt (0+(Builtin.Range.rangeSize 0 n 1 - 1) * 1),rawInt (Builtin.Range.rangeSize 0 n 1),rawInt (-1)].toArray }:=by
  rw [zY];unfold ja;rw [show (0:Int)+(((n.toNat:Nat):Int) - 1) * 1=(n.toNat:Int) - 1 by omega]
 rw [e] at h
 exact h
theorem qOH (hr:IsRange s.heap r 0 n 1 t u v) (h1:-(2^62)<=n) (h2:n<2^62)
  (h:Q₁ (.ref s.heap.objs.size) { s with heap:=s.heap.push (ja n.toNat) }):codeAny (model prog w) A (.call (.builtin "reversed.__new__") ⟨[.type "reversed",.ref r],[]⟩) (wants Q₁ E) s:=by
 have hT:s.TypeIs (.ref r) "range":=⟨_,hr,rfl⟩
 refine codeAny_of_tree (show wpAny _ A.in1 (do checkBuiltinCall "reversed.__new__" ⟨[.type "reversed",.ref r],[]⟩;again (.builtin "reversed.__new__" ⟨[.type "reversed",.ref r],[]⟩)) _ _ s from ?_)
 refine Qc (wpAny_of_eq (F.newCall_reversed_1 _) (Qd ⟨plainId_quiet F.plain_reversed_new _,codeAny_builtin F.entry_reversed_new ?_⟩))
 rw [Around.under_plainId F.plain_reversed_new _,Builtin.«reversed.__new__»]
 refine Qc (wpAny_of_eq (newClass_reversed _) ?_)
 try dsimp only
 refine Qc (wpAny_of_eq (a:=()) (by first|rfl|kernel_rfl) (Qc (wpAny_of_eq (a:=()) (by first|rfl|kernel_rfl) ?_)))
 try dsimp only
 refine Qc (wpAny_specialOf hT F.slot_range_reversed.lookup ?_)
 try dsimp only
 refine Qc (wpAny_of_eq (F.slot_range_reversed.bind _) ?_)
 try dsimp only
 have ne:¬((Value.builtin "range.__reversed__" == Value.none)=true):=fg
 first
 | rw [Qm ne]
 | (show wpAny _ _ (if (Value.builtin "range.__reversed__" == Value.none)=true then _ else _) _ _ _;rw [Qm ne])
 refine Qc (wpAny_rule (Qc (m:=runValue (.call (.builtin "range.__reversed__") ⟨[.ref r],[]⟩)) (show wpAny _ _ (call (.builtin "range.__reversed__") [.ref r]) _ _ _ from qMA hr h1 h2 ?_)))
 first
 | exact Qd h
 | exact Qc (Qd (Qd h))
theorem qMB (hr:IsRange s.heap r 0 n 1 t u v) (h1:-(2^62)<=n) (h2:n<2^62)
  (h:Q (.ref s.heap.objs.size) { s with heap:=s.heap.push (ja n.toNat) }):wpAny (model prog w) A (call (.type "reversed") [.ref r]) Q E s:=by
 refine callType_other (U:="range_iterator") (Q₁:=λo s₁=>o=.ref s.heap.objs.size/\s₁={ s with heap:=s.heap.push (ja n.toNat) }) (by decide +kernel) F.create_reversed ⟨_,_,F.mro_reversed⟩ F.made_reversed qGu (F.typeCall_reversed_1 _) (qOH hr h1 h2 ⟨rfl,rfl⟩) ?_
 rintro o s₁ ⟨rfl,rfl⟩
 exact⟨⟨_,Qh _ rfl,rfl⟩,h⟩
end
theorem qD5:Qo (Qa "reversed")=some (.type "reversed"):=by decide +kernel
section
variable {X:Cx}{tg:Expr}
theorem qRJ {R:It->Hp->Prop}{E:Value->Shared->Prop}{n:Int}{t u v:Tok}{tk:Nat}(I:L2.Inv X pins Z H s) (h1:-(2^62)<=n) (h2:n<2^62)
  (q:R (hV ((n.toNat:Int) - 1) (-1) n.toNat) H):wpAny (model X.prog X.w) X.A (call (.type "reversed") [.ref s.heap.objs.size]) (λv s'=>wpAny (model X.prog X.w) X.A (pyIter v) (mW X pins Z tg R) E s') E
   { s with heap:=s.heap.push { cls:=.type "range",data:=.fields #[.int 0 t,.int n u,.int 1 v] },toks:=tk }:=by
 have J:Inv X pins Z H { s with heap:=s.heap.push { cls:=.type "range",data:=.fields #[.int 0 t,.int n u,.int 1 v] },toks:=tk }:=I.kept λb o e=>Qg _ e
 refine qMB (IsRange.new ..) h1 h2 ?_
 have y:IsRangeIter ((s.heap.push { cls:=.type "range",data:=.fields #[.int 0 t,.int n u,.int 1 v] }).push (ja n.toNat)) (s.heap.push { cls:=.type "range",data:=.fields #[.int 0 t,.int n u,.int 1 v] }).objs.size ((n.toNat:Int) - 1) (n.toNat:Int) (-1):=Qh _ rfl
 refine wpAny_pyIter_rangeiter y ?_
 refine⟨(s.heap.push { cls:=.type "range",data:=.fields #[.int 0 t,.int n u,.int 1 v] }).objs.size,[(s.heap.push { cls:=.type "range",data:=.fields #[.int 0 t,.int n u,.int 1 v] }).objs.size],_,_,H,rfl,
  J.kept (t':=tk) λb o e=>Qg _ e,tw _ ((n.toNat:Int) - 1) (-1) n.toNat,?_,λb hb=>?_,q⟩
 ·show IsRangeIter _ _ (((n.toNat:Int) - 1)+((0:Nat):Int) * (-1)) (((n.toNat:Nat):Int) - ((0:Nat):Int)) (-1)
  rw [show ((n.toNat:Int) - 1)+((0:Nat):Int) * (-1)=(n.toNat:Int) - 1 by omega,show ((n.toNat:Nat):Int) - ((0:Nat):Int)=(n.toNat:Int) by omega]
  exact y
 ·have e:b=(s.heap.push { cls:=.type "range",data:=.fields #[.int 0 t,.int n u,.int 1 v] }).objs.size:=by simpa using hb
  subst e
  exact J.fpOk (aK _) (J.hok.fresh (aK _))
def qUa (ta:TA):TI:=fun Z H R=>ta Z H λvs H1=>∃i:Int,vs=[.int i]/\(-(2^62)<=i/\i<2^62)/\R (hV ((i.toNat:Int) - 1) (-1) i.toNat) H1
theorem qOZ (hg:Gl X "range") (hm:X.mg "range"=none) (hg':Gl X "reversed") (hm':X.mg "reversed"=none) (ha:PA X [a] ta) (hs:starEach [a] X.env=[(false,eval a X.env)]) :
  PI X tg (.Call (.Name "reversed" p') [.Call (.Name "range" p) [a] [] pos] [] pos') (qUa ta):=by
 intro pins s Z H R I h
 refine Call_ (gz I hg' hm' qD5 (ie (rest:=[]) ?_ rfl rfl))
 show wpAny _ _ (spliced ((false,eval (.Call (.Name "range" p) [a] [] pos) X.env)::backTo pos' (starEach [] X.env))) _ _ s
 refine Calls.spliced_cons ?_
 refine Call_ (gz I hg hm boot_range (ie (aB (ha pos pins s Z H _ I h) λus s1 ⟨vs,H1,I1,r1,q1⟩=>?_) hs rfl))
 obtain⟨j,e,⟨q1,q2⟩,q⟩:=q1
 subst e
 cases r1 with
 | cons r rr =>
  cases rr
  obtain⟨t,rfl⟩:=r
  exact call_range_1 (Calls.spliced_nil (qRJ I1 q1 q2 q))
end
end Dw
namespace Dw
open PySem PySem.Spec PyProof.Rows L2 HT
section
variable {prog:Program}{w:World}{A:Around}{E:Value->Shared->Prop}{s:Shared}
theorem qIh (ht:IsTup s.heap t items) (h:Q true s):wpAny (model prog w) A (Builtin.Tuple.tupleIsExact (.ref t)) Q E s:=by
 unfold Builtin.Tuple.tupleIsExact
 exact Qc (wpAny_typeOf ht.typeIs (Qd h))
theorem qG4 {vl vu:Value}{lo hi:Option Int}{Q:Value->Shared->Prop}(ht:IsTup s.heap t items) (hs:s.heap.IsSliceOf sl vl vu .none) (pl:IsPart vl lo) (pu:IsPart vu hi)
  (hw:sIx items.size 0 lo=0/\sIx items.size items.size hi=items.size) (h:Q (.ref t) s):wpAny (model prog w) A (getItem (.ref t) (.ref sl)) Q E s:=by
 obtain⟨os,hos,hcs,hds⟩:=id hs
 have hTs:s.TypeIs (.ref sl) "slice":=⟨os,hos,hcs⟩
 unfold getItem
 try with_reducible refine wpAny_holding ?_
 first|refine Qc (Qd ?_)|skip
 refine Qc (wpAny_sequenceKey ht.typeIs (by decide) ?_)
 refine Qc (wpAny_callSpecial?_slot (name:=Qa "__getitem__") ht.typeIs yat
  (wpAny_call_entry yat ht.typeIs entry_tuple_getitem ?_ (args_tuple_getitem _ _)))
 show wpAny _ _ (Builtin.Tuple.tupleItemsOf (.ref t) >>= _) _ _ s
 refine Qc (tupleItemsOf_ ht (Qc (wpAny_typeOf hTs ?_)))
 rw [Ql (by decide)]
 refine Qc (BP hs pl pu ?_)
 have yes:(((sIx items.size 0 lo:Nat):Int) == 0&&(1:Int) == 1&&(sIx items.size items.size hi - sIx items.size 0 lo) == items.size)=true:=by
  rw [hw.1,hw.2];simp
 show wpAny _ _ (if (((sIx items.size 0 lo:Nat):Int) == 0&&(1:Int) == 1&&(sIx items.size items.size hi - sIx items.size 0 lo) == items.size)=true then _ else _) _ _ s
 rw [Ql yes]
 refine Qc (qIh ht ?_)
 rw [Ql rfl]
 refine Qc (wpAny_rule ?_)
 first
  | exact Qc (Qd (Qd ⟨_,rfl,Qd h⟩))
  | exact Qc (Qd ⟨_,rfl,Qd h⟩)
  | exact Qd ⟨_,rfl,Qd h⟩
end
section
variable {X:Cx}
def qTV (K:Qb):V->Option Int->Option Int->Hp->VK->Prop:=λx lo hi H Q=>∃a xs,x=.ref a/\SqT K H a xs/\(HT.sIx xs.length 0 lo=0/\HT.sIx xs.length xs.length hi=xs.length)/\Q (.ref a) H
theorem qOE:SlR X (qTV X.K):=by
 intro pins s Z H x v vl vu lo hi sl Q I rx hs pl pu h
 obtain⟨a,xs,rfl,hx,hw,q⟩:=h
 cases rx
 obtain⟨its,r,ht,hz⟩:=I.tuple hx
 have hlen:its.toArray.size=xs.length:=by rw [aZ];exact r.length.symm
 exact⟨"tuple",_,yat.lookup,ht.typeIs,qG4 ht hs pl pu (by rw [hlen];exact hw) ⟨.ref a,H,I,rfl,q⟩⟩
theorem qNJ (ht:IsTup s.heap t #[]) (hb:IsTup s.heap b ws) (h:Q (.ref b) s):wpAny (model prog w) A (binaryOp .Add (.ref t) (.ref b)) Q E s:=by
 obtain⟨⟨cls,dd,data,sl⟩,ho,hc,n,hd⟩:=id ht
 obtain⟨⟨cls2,dd2,data2,fN⟩,ho2,hc2,n2,hd2⟩:=id hb
 simp only at hc hd hc2 hd2
 subst hc hd hc2 hd2
 exact concat_meets ⟨_,ho,rfl⟩ ⟨_,ho2,rfl⟩ noFill_tuple_add seq_tuple_add qD qF (qG _ _) (tuple_addW0 t b #[] ws n n2 dd dd2 sl fN rfl) ⟨ho,ho2,h⟩
theorem op_catN:OpR X (binaryOp .Add) (λx y H Q=>∃a b ys,x=.ref a/\y=.ref b/\SqT X.K H a []/\SqT X.K H b ys/\Q (.ref b) H):=by
 intro pins s Z H x y v u Q I rx ry h
 obtain⟨a,b,ys,rfl,rfl,ha,hb,q⟩:=h
 cases rx
 cases ry
 obtain⟨its,r1,p1,_⟩:=I.tuple ha
 obtain⟨its2,r2,p2,_⟩:=I.tuple hb
 cases r1
 exact qNJ p1 p2 ⟨.ref b,H,I,rfl,q⟩
end
end Dw
namespace Dw
open PySem PySem.Spec PyProof.Rows L2
theorem qJn {K:Qb}{tg:Expr}(j:Addr) (lo st:Int) (n:Nat):Turn P w K tg (hV lo st n) [j] j (λi h=>IsLongIter h j (lo+(i:Nat) * st) ((n:Int) - (i:Nat)) st) where
 mem:=by simp
 obj:=λi h y b hb=>by
  have e:b=j:=by simpa using hb
  subst e
  exact⟨_,y,λv z=>by
   have z':Data.fields _=Data.cell v:=z
   cases z'⟩
 keep:=λi h h' y k=>k j (by simp) _ y
 item:=by
  intro X hP hw hK hc i pins s Z H E I hf y hg
  subst hP hw hK
  obtain⟨u0,u1,u2,u3,u4,u5⟩:=hf j (by simp)
  have W:=Walks.longrange (prog:=X.prog) (w:=X.w) (I.ok.hd hc) j lo st n
  refine W.item i s _ _ hg y λv h' tk hv y' kk=>?_
  obtain⟨t,rfl⟩:=hv
  have J:Inv X pins Z H { s with heap:=h',toks:=tk }:=I.turned (λb o hb e=>kk b o (by simpa using hb) e) u0 u1 u3 u4 u5
  exact⟨_,rfl,lM (s:={ s with heap:=h',toks:=tk }) (n:="longrange_iterator") y' rfl rfl (by decide) ⟨.int (lo+i * st),H,J,⟨t,rfl⟩,⟨rfl,rfl⟩,y',λb hb=>(hf b hb).1⟩⟩
 done:=by
  intro X hP hw hK hc i pins s Z H E I hf y hg
  subst hP hw hK
  obtain⟨u0,u1,u2,u3,u4,u5⟩:=hf j (by simp)
  exact wpAny_pyNext_long_end (I.ok.hd hc) y (by have:n<=i:=hg;omega) λh' eb=>⟨rfl,I.turned (t':=s.toks) (λb o hb e=>eb b o hb e) u0 u1 u3 u4 u5⟩
 self:=λ_ _ _ _ _ y h=>wpAny_pyIter_longiter y h
section
variable {X:Cx}{tg:Expr}
theorem qPH {R:It->Hp->Prop}{E:Value->Shared->Prop}{lo hi:Int}{t u v:Tok}{tk:Nat}(I:L2.Inv X pins Z H s)
  (q:R (hV lo 1 (hi - lo).toNat) H):wpAny (model X.prog X.w) X.A (pyIter (.ref s.heap.objs.size)) (mW X pins Z tg R) E { s with heap:=s.heap.push { cls:=.type "range",data:=.fields #[.int lo t,.int hi u,.int 1 v] },toks:=tk }:=by
 have J:Inv X pins Z H { s with heap:=s.heap.push { cls:=.type "range",data:=.fields #[.int lo t,.int hi u,.int 1 v] },toks:=tk }:=I.kept λb o e=>Qg _ e
 have e1:lo+((0:Nat):Int) * 1=lo:=by simp
 have e2:(((hi - lo).toNat:Nat):Int) - ((0:Nat):Int)=Builtin.Range.rangeSize lo hi 1:=by rw [rangeSize_one];split<;>omega
 have fp:∀b∈[(s.heap.push { cls:=.type "range",data:=.fields #[.int lo t,.int hi u,.int 1 v] }).objs.size],dX X pins H b:=λb hb=>by
  have e:b=(s.heap.push { cls:=.type "range",data:=.fields #[.int lo t,.int hi u,.int 1 v] }).objs.size:=by simpa using hb
  subst e
  exact J.fpOk (aK _) (J.hok.fresh (aK _))
 cases hsm:Builtin.Range.small lo hi 1 with
 | true =>
  refine wpAny_pyIter_range (IsRange.new ..) hsm ⟨_,[(s.heap.push { cls:=.type "range",data:=.fields #[.int lo t,.int hi u,.int 1 v] }).objs.size],_,_,H,rfl,J.kept (t':=tk) λb o e=>Qg _ e,tw _ lo 1 (hi - lo).toNat,?_,fp,q⟩
  show IsRangeIter _ _ (lo+((0:Nat):Int) * 1) ((((hi - lo).toNat:Nat):Int) - ((0:Nat):Int)) 1
  rw [e1,e2]
  exact Qh _ rfl
 | false =>
  refine wpAny_pyIter_longrange (IsRange.new ..) hsm ⟨_,[(s.heap.push { cls:=.type "range",data:=.fields #[.int lo t,.int hi u,.int 1 v] }).objs.size],_,_,H,rfl,J.kept (t':=tk) λb o e=>Qg _ e,qJn _ lo 1 (hi - lo).toNat,?_,fp,q⟩
  show IsLongIter _ _ (lo+((0:Nat):Int) * 1) ((((hi - lo).toNat:Nat):Int) - ((0:Nat):Int)) 1
  rw [e1,e2]
  exact Qh _ rfl
def qSh (ta:TA):TI:=fun Z H R=>ta Z H λvs H1=>∃i j:Int,vs=[.int i,.int j]/\R (hV i 1 (j - i).toNat) H1
theorem qHI (hg:Gl X "range") (hm:X.mg "range"=none) (ha:PA X [a,b] ta) (hs:starEach [a,b] X.env=[(false,eval a X.env),(false,eval b X.env)]) (hs2:starEach [b] X.env=[(false,eval b X.env)]) :
  PI X tg (.Call (.Name "range" p) [a,b] [] pos) (qSh ta):=by
 intro pins s Z H R I h
 refine Call_ (gz I hg hm boot_range (ie (aB (ha pos pins s Z H _ I h) λus s1 ⟨vs,H1,I1,r1,q1⟩=>?_) (by rw [hs,hs2]) (by rw [hs2];rfl)))
 obtain⟨i,j,e,q⟩:=q1
 subst e
 cases r1 with
 | cons r rr =>
  cases rr with
  | cons r' rr =>
   cases rr
   obtain⟨t,rfl⟩:=r
   obtain⟨t',rfl⟩:=r'
   exact call_range_2 (qPH I1 q)
theorem AS:∀{xs ys:List Int},xs.Perm ys->xs.Pairwise (·<=·)->ys.Pairwise (·<=·)->xs=ys
 | [],ys,h,_,_=>h.nil_eq
 | x::xs,[],h,_,_=>Qn h.length_eq (by simp)
 | x::xs,y::ys,h,h1,h2=>by
  have a1:x∈y::ys:=h.subset dF
  have a2:y∈x::xs:=h.symm.subset dF
  have b1:y<=x:=(yaf.mp a1).elim (λe=>by omega) λm=>(ybh.mp h2).1 x m
  have b2:x<=y:=(yaf.mp a2).elim (λe=>by omega) λm=>(ybh.mp h1).1 y m
  have e:x=y:=by omega
  subst e
  rw [AS (List.perm_cons _ |>.mp h) (ybh.mp h1).2 (ybh.mp h2).2]
end
end Dw
namespace Dw
open PySem PySem.Spec PyProof.Rows L2
abbrev Fz:=Addr->Prop
def qUq (K:Qb) (a:Addr) (xs:List V):Prop:=
 ∃(o:Obj) (its:Array Value) (n:Nat),K.lookup a=some o/\o.cls=.type "list"/\o.dict=none/\o.data=.seq its n/\its.size<=sizeLine/\Vals xs its.toList
def LsR (K:Qb) (H:Hp) (F:Fz) (a:Addr) (xs:List V):Prop:=(F a/\Rd H a (.lst xs))∨qUq K a xs
theorem LsR.sq {K:Qb}{H:Hp}{F:Fz}{a:Addr}{xs:List V}(h:LsR K H F a xs):SqL K H a xs:=h.elim (λh=>.inl h.2) .inr
noncomputable def dk (ks:List Int):List (cN×V):=ks.map λk=>(Sum.inl k,V.bl true)
@[simp] noncomputable def i3:D->Bool
 | .dct _ _=>true
 | _=>false
def InsR (K:Qb) (H:Hp) (a:Addr) (kn:Kn) (vs:List V):Prop:=
 ∃(dx:Addr) (fs:List (Str×V)),H a=some (.ins kn.c dx fs)/\Cls K kn.c/\(∀(j:Nat) (f:Str),kn.ns[j]?=some f->NoAttr K kn.c f/\∃u,fs.lookup f=some u/\vs[j]?=some u)/\∀g,g∉kn.ns->fs.lookup g=none
def CloR (H:Hp) (a:Addr) (kn:Kn) (vs:List V):Prop:=
 kn.ns=[]/\∃(L:LamD) (clos:List (Str×Addr)) (pm ctv:Value) (c:Addr) (uf:HO) (oc:Obj) (uc:HO) (fs:Array Value) (t:Tok) (cs:List (Addr×Obj)),
  lamX.lookup (kn.c - CL)=some L/\H a=some (.frz (PySem.W.kla_obj "<lambda>" L.q L.la L.e L.sc clos pm c ctv) uf)/\H c=some (.frz oc uc)/\oc.data=.fields fs/\fs[1]?=some (.str L.q t) /\
  fP cs/\cP H cs/\(∀y b,clos.lookup y=some b->∃o,cs.lookup b=some o)/\(∀y z b,clos.lookup y=some b->clos.lookup z=some b->y=z)/\(∀y,L.sc.names.lookup y=some .free->∃b,clos.lookup y=some b) /\
  vs.length=(aG L.sc).length/\∀(i:Nat) (y:Str) (v:V),(aG L.sc)[i]?=some y->vs[i]?=some v->∃b o u,clos.lookup y=some b/\cs.lookup b=some o/\o.data=.cell (some u)/\RelV v u
def ObjR (K:Qb) (H:Hp) (a:Addr) (kn:Kn) (vs:List V):Prop:=if CL<=kn.c then CloR H a kn vs else InsR K H a kn vs
mutual
def RD (K:Qb) (H:Hp) (F:Fz):D->V->Prop
 | .non,v=>v=.non
 | .bl b,v=>v=.bl b
 | .int i,v=>v=.int i
 | .str x,v=>v=.str x
 | .tup ds,v=>∃a vs,v=.ref a/\SqT K H a vs/\RDs K H F ds vs
 | .lst ds,v=>∃a vs,v=.ref a/\LsR K H F a vs/\RDs K H F ds vs
 | .dct _ _,_=>False
 | .obj kn ds,v=>∃a vs,v=.ref a/\ObjR K H a kn vs/\RDs K H F ds vs
def RDs (K:Qb) (H:Hp) (F:Fz):List D->List V->Prop
 | [],vs=>vs=[]
 | d::ds,vs=>∃v r,vs=v::r/\RD K H F d v/\RDs K H F ds r
end
structure Keep (H:Hp) (F:Fz) (H':Hp) (F':Fz):Prop where
 tups:∀a xs,Rd H a (.tup xs)->Rd H' a (.tup xs)
 lsts:∀a xs,F a->Rd H a (.lst xs)->F' a/\Rd H' a (.lst xs)
 inss:∀a C dx fs,H a=some (.ins C dx fs)->H' a=some (.ins C dx fs)
 frzs:∀a o u,H a=some (.frz o u)->H' a=some (.frz o u)
theorem InsR.mono {K:Qb}{H H':Hp}{a:Addr}{kn:Kn}{vs:List V}(k:∀a C dx fs,H a=some (.ins C dx fs)->H' a=some (.ins C dx fs)):InsR K H a kn vs->InsR K H' a kn vs:=
 λ⟨dx,fs,h1,h2⟩=>⟨dx,fs,k _ _ _ _ h1,h2⟩
theorem CloR.mono {H H':Hp}{a:Addr}{kn:Kn}{vs:List V}(k:∀a o u,H a=some (.frz o u)->H' a=some (.frz o u)):CloR H a kn vs->CloR H' a kn vs:=
 λ⟨n,L,clos,pm,ctv,c,uf,oc,uc,fs,t,cs,h1,h2,h3,h4,h5,h6,h7,h8⟩=>⟨n,L,clos,pm,ctv,c,uf,oc,uc,fs,t,cs,h1,k _ _ _ h2,k _ _ _ h3,h4,h5,h6,λb o e=>k _ _ _ (h7 b o e),h8⟩
theorem ObjR.mono {K:Qb}{H H':Hp}{a:Addr}{kn:Kn}{vs:List V}(k:∀a C dx fs,H a=some (.ins C dx fs)->H' a=some (.ins C dx fs)) (k2:∀a o u,H a=some (.frz o u)->H' a=some (.frz o u)) (h:ObjR K H a kn vs):ObjR K H' a kn vs:=by
 unfold ObjR at h ⊢
 split
 ·rename_i z;rw [Ql z] at h;exact h.mono k2
 ·rename_i z;rw [Qm z] at h;exact h.mono k
theorem ObjR.ins {K:Qb}{H:Hp}{a:Addr}{kn:Kn}{vs:List V}(h:ObjR K H a kn vs) (n:kn.c<CL):InsR K H a kn vs:=by
 unfold ObjR at h;rwa [Qm (Nat.not_le.mpr n)] at h
theorem ObjR.fld {K:Qb}{H:Hp}{a:Addr}{kn:Kn}{vs:List V}{j:Nat}{f:Str}(h:ObjR K H a kn vs) (n:kn.ns[j]?=some f):InsR K H a kn vs:=by
 unfold ObjR at h
 split at h
 ·rw [h.1] at n;cases n
 ·exact h
theorem ObjR.of {K:Qb}{H:Hp}{a:Addr}{kn:Kn}{vs:List V}(n:kn.c<CL) (h:InsR K H a kn vs):ObjR K H a kn vs:=by
 unfold ObjR;rwa [Qm (Nat.not_le.mpr n)]
section
variable {K:Qb}{H H' H'':Hp}{F F' F'':Fz}
mutual
theorem RD.mono (k:Keep H F H' F'):∀{d:D}{v:V},RD K H F d v->RD K H' F' d v
 | .non,_,h=>h
 | .bl _,_,h=>h
 | .int _,_,h=>h
 | .str _,_,h=>h
 | .tup ds,v,h=>by
  simp only [RD] at h ⊢
  obtain⟨a,vs,e,hs,hr⟩:=h
  exact⟨a,vs,e,hs.elim (λz=>.inl (k.tups _ _ z)) .inr,RDs.mono k hr⟩
 | .lst ds,v,h=>by
  simp only [RD] at h ⊢
  obtain⟨a,vs,e,hs,hr⟩:=h
  exact⟨a,vs,e,hs.elim (λz=>.inl (k.lsts _ _ z.1 z.2)) .inr,RDs.mono k hr⟩
 | .dct _ _,_,h=>by simp only [RD] at h
 | .obj kn ds,v,h=>by
  simp only [RD] at h ⊢
  obtain⟨a,vs,e,hs,hr⟩:=h
  exact⟨a,vs,e,hs.mono k.inss k.frzs,RDs.mono k hr⟩
theorem RDs.mono (k:Keep H F H' F'):∀{ds:List D}{vs:List V},RDs K H F ds vs->RDs K H' F' ds vs
 | [],_,h=>h
 | d::ds,vs,h=>by
  simp only [RDs] at h ⊢
  obtain⟨v,r,e,h1,h2⟩:=h
  exact⟨v,r,e,RD.mono k h1,RDs.mono k h2⟩
end
theorem RDs.length:∀{ds:List D}{vs:List V},RDs K H F ds vs->vs.length=ds.length
 | [],_,h=>by simp only [RDs] at h;subst h;rfl
 | d::ds,vs,h=>by
  simp only [RDs] at h
  obtain⟨v,r,rfl,_,h2⟩:=h
  simp [RDs.length h2]
theorem RDs.get:∀{ds:List D}{vs:List V}{i:Nat}{d:D},RDs K H F ds vs->ds[i]?=some d->∃v,vs[i]?=some v/\RD K H F d v
 | [],_,_,_,_,e=>by simp at e
 | x::ds,vs,i,d,h,e=>by
  simp only [RDs] at h
  obtain⟨v,r,rfl,h1,h2⟩:=h
  cases i with
  | zero=>simp at e;subst e;exact⟨v,rfl,h1⟩
  | succ i=>simp at e;obtain⟨w,e1,e2⟩:=RDs.get h2 e;exact⟨w,by simpa using e1,e2⟩
theorem RDs.append:∀{ds es:List D}{vs ws:List V},RDs K H F ds vs->RDs K H F es ws->RDs K H F (ds++es) (vs++ws)
 | [],_,_,_,h,h'=>by simp only [RDs] at h;subst h;exact h'
 | d::ds,es,vs,ws,h,h'=>by
  simp only [RDs] at h
  obtain⟨v,r,rfl,h1,h2⟩:=h
  exact⟨v,r++ws,rfl,h1,RDs.append h2 h'⟩
theorem RDs.take:∀{ds:List D}{vs:List V}(n:Nat),RDs K H F ds vs->RDs K H F (ds.take n) (vs.take n)
 | _,_,0,_=>by simp [RDs]
 | [],_,n+1,h=>by simp only [RDs] at h;subst h;simp [RDs]
 | d::ds,vs,n+1,h=>by
  simp only [RDs] at h
  obtain⟨v,r,rfl,h1,h2⟩:=h
  exact⟨v,r.take n,rfl,h1,RDs.take n h2⟩
theorem RDs.drop:∀{ds:List D}{vs:List V}(n:Nat),RDs K H F ds vs->RDs K H F (ds.drop n) (vs.drop n)
 | _,_,0,h=>by simpa using h
 | [],_,n+1,h=>by simp only [RDs] at h;subst h;simp [RDs]
 | d::ds,vs,n+1,h=>by
  simp only [RDs] at h
  obtain⟨v,r,rfl,h1,h2⟩:=h
  simpa using RDs.drop n h2
theorem RDs.rep (h:RDs K H F ds vs):∀n:Nat,RDs K H F (List.replicate n ds).flatten (List.replicate n vs).flatten
 | 0=>by simp [RDs]
 | n+1=>by simpa [jU] using RDs.append h (RDs.rep h n)
theorem RDs.ints:∀{ds:List D}{vs:List V}{is:List Int},RDs K H F ds vs->fx ds=some is->vs=is.map V.int
 | [],_,_,h,e=>by simp only [RDs] at h;subst h;simp at e;subst e;rfl
 | d::ds,vs,is,h,e=>by
  simp only [RDs] at h
  obtain⟨v,r,rfl,h1,h2⟩:=h
  cases d with
  | int i =>
   cases q:fx ds with
   | none=>simp [q] at e
   | some js =>
    simp [q] at e
    subst e
    have h1':v=.int i:=h1
    rw [h1',RDs.ints h2 q];rfl
  | _=>simp at e
theorem RDs.bls:∀{ds:List D}{vs:List V}{is:List Bool},RDs K H F ds vs->gu ds=some is->vs=is.map V.bl
 | [],_,_,h,e=>by simp only [RDs] at h;subst h;simp at e;subst e;rfl
 | d::ds,vs,is,h,e=>by
  simp only [RDs] at h
  obtain⟨v,r,rfl,h1,h2⟩:=h
  cases d with
  | bl i =>
   cases q:gu ds with
   | none=>simp [q] at e
   | some js =>
    simp [q] at e
    subst e
    have h1':v=.bl i:=h1
    rw [h1',RDs.bls h2 q];rfl
  | _=>simp at e
theorem RDs.of_ints (is:List Int):RDs K H F (is.map .int) (is.map V.int):=by
 induction is with
 | nil=>simp [RDs]
 | cons i r ih=>exact⟨_,_,rfl,rfl,ih⟩
end
structure Gr (H:Hp) (F:Fz) (H':Hp) (F':Fz):Prop where
 same:Same H H'
 sub:∀a,F a->F' a
 new:∀a,F' a->F a∨H a=none
 dom:∀a,H' a=none->¬F' a
section
variable {K:Qb}{H H1 H2:Hp}{F F1 F2:Fz}
theorem sG (s:Same H H1) (h:Rd H a u):Rd H1 a u:=h.elim (λz=>.inl (s _ _ z)) λ⟨o,z⟩=>.inr ⟨o,s _ _ z⟩
theorem Gr.keep (g:Gr H F H1 F1):Keep H F H1 F1:=⟨λ_ _ h=>sG g.same h,λ_ _ f h=>⟨g.sub _ f,sG g.same h⟩,λ_ _ _ _ h=>g.same _ _ h,λ_ _ _ h=>g.same _ _ h⟩
theorem Gr.refl (d:∀a,H a=none->¬F a):Gr H F H F:=⟨Same.refl H,λ_ h=>h,λ_ h=>.inl h,d⟩
theorem Gr.trans (g:Gr H F H1 F1) (g':Gr H1 F1 H2 F2):Gr H F H2 F2:=
 ⟨g.same.trans g'.same,λa h=>g'.sub a (g.sub a h),λa h=>(g'.new a h).elim (λz=>g.new a z) λz=>.inr (g.same.free z),g'.dom⟩
theorem Gr.laid (d:∀a,H a=none->¬F a) (hp:H p=none):Gr H F (ay H p o) F:=
 ⟨λb u q=>by rw [aD (bY q hp)];exact q,λ_ h=>h,λ_ h=>.inl h,λa e=>by
  by_cases z:a=p
  ·subst z;exact d a hp
  ·rw [aD z] at e;exact d a e⟩
theorem Gr.fz (g:Gr H F H1 F1) (hp:H p=none) (h1:H1 p=some o):Gr H F H1 (λa=>a=p∨F1 a):=
 ⟨g.same,λa h=>.inr (g.sub a h),λa h=>h.elim (λz=>.inr (z▸hp)) (λz=>g.new a z),λa e h=>h.elim (λz=>by subst z;rw [h1] at e;cases e) (g.dom a e)⟩
def RR (K:Qb) (H H':Hp) (F':Fz):R->V->Prop
 | (false,d),v=>RD K H' F' d v
 | (true,d),v=>∃a ds vs,d=.lst ds/\v=.ref a/\H a=none/\¬F' a/\H' a=some (.lst vs)/\RDs K H' F' ds vs
def RP (K:Qb) (H:Hp) (F:Fz) (d:D) (v:V):Prop:=
 RD K H F d v∨∃a ds vs,d=.lst ds/\v=.ref a/\H a=some (.lst vs)/\RDs K H F ds vs
theorem RR.back (h:RR K H H1 F1 r v) (s:Same H0 H):RR K H0 H1 F1 r v:=by
 obtain⟨b,d⟩:=r
 cases b with
 | false=>exact h
 | true =>
  obtain⟨a,ds,vs,e1,e2,e3,e⟩:=h
  exact⟨a,ds,vs,e1,e2,s.free e3,e⟩
theorem RR.look (h:RR K H H1 F1 r v):RP K H1 F1 r.2 v:=by
 obtain⟨b,d⟩:=r
 cases b with
 | false=>exact .inl h
 | true =>
  obtain⟨a,ds,vs,e1,e2,e3,e4,e5,e6⟩:=h
  exact .inr ⟨a,ds,vs,e1,e2,e5,e6⟩
theorem RR.fz (h:RR K H H1 F1 r v) (g:Gr H F H1 F1):∃F2,Gr H F H1 F2/\RD K H1 F2 r.2 v:=by
 obtain⟨b,d⟩:=r
 cases b with
 | false=>exact⟨F1,g,h⟩
 | true =>
  obtain⟨a,ds,vs,rfl,rfl,e3,e4,e5,e6⟩:=h
  have g2:Keep H1 F1 H1 (λb=>b=a∨F1 b):=⟨λ_ _ h=>h,λ_ _ f h=>⟨.inr f,h⟩,λ_ _ _ _ h=>h,λ_ _ _ h=>h⟩
  exact⟨λb=>b=a∨F1 b,g.fz e3 e5,⟨a,vs,rfl,.inl ⟨.inl rfl,.inl e5⟩,RDs.mono g2 e6⟩⟩
theorem RP.grow (h:RP K H F d v) (g:Gr H F H1 F1):RP K H1 F1 d v:=
 h.elim (λz=>.inl (RD.mono g.keep z)) λ⟨a,ds,vs,e1,e2,e3,e4⟩=>.inr ⟨a,ds,vs,e1,e2,g.same _ _ e3,RDs.mono g.keep e4⟩
theorem RP.int (h:RP K H F (.int i) v):v=.int i:=h.elim (λz=>z) λ⟨_,_,_,e,_⟩=>by cases e
theorem RP.bl (h:RP K H F (.bl i) v):v=.bl i:=h.elim (λz=>z) λ⟨_,_,_,e,_⟩=>by cases e
theorem RP.non (h:RP K H F .non v):v=.non:=h.elim (λz=>z) λ⟨_,_,_,e,_⟩=>by cases e
theorem RP.str (h:RP K H F (.str x) v):v=.str x:=h.elim (λz=>z) λ⟨_,_,_,e,_⟩=>by cases e
theorem RP.tup (h:RP K H F (.tup ds) v):∃a vs,v=.ref a/\SqT K H a vs/\RDs K H F ds vs:=h.elim (λz=>z) λ⟨_,_,_,e,_⟩=>by cases e
theorem RP.noDct:¬RP K H F (.dct m ks) v:=λh=>h.elim (λz=>by simp only [RD] at z) λ⟨_,_,_,e,_⟩=>by cases e
theorem RP.obj (h:RP K H F (.obj kn ds) v):∃a vs,v=.ref a/\ObjR K H a kn vs/\RDs K H F ds vs:=h.elim (λz=>by simpa only [RD] using z) λ⟨_,_,_,e,_⟩=>by cases e
theorem RP.lst (h:RP K H F (.lst ds) v):∃a vs,v=.ref a/\SqL K H a vs/\RDs K H F ds vs:=by
 rcases h with ⟨a,vs,e,h1,h2⟩|⟨a,ds',vs,e1,e2,e3,e4⟩
 ·exact⟨a,vs,e,h1.sq,h2⟩
 ·cases e1;exact⟨a,vs,e2,SqL.of e3,e4⟩
end
structure Gp where
 h:Hp
 pin:Option Addr
 tb:TB h
instance:Coe Gp Hp:=⟨Gp.h⟩
instance:CoeFun Gp λ_=>Addr->Option HO:=⟨Gp.h⟩
structure SR (K:Qb) (G:Gp) (H:Hp) (F:Fz) (Z:En) (τ:L2.St):Prop where
 len:Z.length=τ.length
 ent:Same G.h H
 dom:∀a,H a=none->¬F a
 val:∀i d,ar Z i=some (false,d)->∃v,τ[i]?=some (some v)/\RD K H F d v
 own:∀i d,ar Z i=some (true,d)->i3 d=false->∃a ds vs,d=.lst ds/\τ[i]?=some (some (.ref a))/\G a=none/\¬F a/\H a=some (.lst vs)/\RDs K H F ds vs
 sep:∀i j d e,ar Z i=some (true,d)->ar Z j=some (true,e)->τ[i]?=τ[j]?->i=j
 dct:∀i m ks,ar Z i=some (true,.dct m ks)->∃a,τ[i]?=some (some (.ref a))/\¬F a/\H a=some (.dK (dk ks))/\(m=true->G a=none)
 pin:∀p d,G.pin=some p->ar Z 0=some (true,d)->τ[0]?=some (some (.ref p))
theorem SR.grow {K:Qb}{G:Gp}{H H1:Hp}{F F1:Fz}{Z:En}{τ:L2.St}(s:SR K G H F Z τ) (g:Gr H F H1 F1):SR K G H1 F1 Z τ:=
 ⟨s.len,s.ent.trans g.same,g.dom,λi d e=>let ⟨v,h1,h2⟩:=s.val i d e;⟨v,h1,RD.mono g.keep h2⟩,
  λi d e hd=>let ⟨a,ds,vs,h1,h2,h3,h4,h5,h6⟩:=s.own i d e hd
   ⟨a,ds,vs,h1,h2,h3,(λz=>(g.new a z).elim h4 λz=>Qn (h5.symm.trans z) (by simp)),g.same _ _ h5,RDs.mono g.keep h6⟩,s.sep,
  λi m ks e=>let ⟨a,h1,h2,h3,h4⟩:=s.dct i m ks e
   ⟨a,h1,(λz=>(g.new a z).elim h2 λz=>Qn (h3.symm.trans z) (by simp)),g.same _ _ h3,h4⟩,s.pin⟩
theorem SR.tbH {K:Qb}{G:Gp}{H:Hp}{F:Fz}{Z:En}{τ:L2.St}(s:SR K G H F Z τ):TB H:=G.tb.same s.ent
theorem SR.addr {K:Qb}{G:Gp}{H:Hp}{F:Fz}{Z:En}{τ:L2.St}{i:Nat}{d:D}(s:SR K G H F Z τ) (h:ar Z i=some (true,d)):∃a u,τ[i]?=some (some (.ref a))/\¬F a/\H a=some u:=by
 cases hd:i3 d with
 | false=>obtain⟨a,ds,vs,h1,h2,h3,h4,h5,h6⟩:=s.own i d h hd;exact⟨a,_,h2,h4,h5⟩
 | true =>
  cases d with
  | dct m ks=>obtain⟨a,h1,h2,h3,h4⟩:=s.dct i m ks h;exact⟨a,_,h1,h2,h3⟩
  | _=>cases hd
end Dw
namespace Dw
open PySem PySem.Spec PyProof.Rows L2
section
variable {K:Qb}{H H' H'':Hp}{F F':Fz}{cs:List (Addr×Obj)}
theorem qPt (CI:cP H cs) {a:Addr}{u:HO}(h:Rd H a u) (n:u≠.own a) (n2:∀o,u≠.frz o (.own a)):cs.lookup a=none:=by
 cases z:cs.lookup a with
 | none=>rfl
 | some o =>
  have e:=CI a o z
  rcases h with h|⟨o',h⟩<;>rw [h] at e
  ·cases e;exact Qn rfl (n2 o)
  ·cases e;exact Qn rfl n
theorem yM (CI:cP H cs) {a:Addr}{u:HO}(h:Rd H a u) (n:u≠.own a) (n2:∀o,u≠.frz o (.own a)):Rd (bN H cs) a u:=by
 have z:cs.lookup a=none:=by
  cases z:cs.lookup a with
  | none=>rfl
  | some o =>
   have e:=CI a o z
   rcases h with h|⟨o',h⟩<;>rw [h] at e
   ·cases e;exact Qn rfl (n2 o)
   ·cases e;exact Qn rfl n
 unfold Rd
 rw [cJ z]
 exact h
noncomputable def Fc (F:Fz) (cs:List (Addr×Obj)):Fz:=λa=>F a/\cs.lookup a=none
mutual
theorem RD.off (CI:cP H cs):∀{d:D}{v:V},aX d=true->RD K H F d v->RD K (bN H cs) (Fc F cs) d v
 | .non,_,_,h=>h
 | .bl _,_,_,h=>h
 | .int _,_,_,h=>h
 | .str _,_,_,h=>h
 | .tup ds,v,n,h=>by
  simp only [RD] at h ⊢
  obtain⟨a,vs,e,hs,hr⟩:=h
  exact⟨a,vs,e,hs.elim (λz=>.inl (yM CI z (λr=>by cases r) λo r=>by cases r)) .inr,RDs.off CI (by simpa only [aX] using n) hr⟩
 | .lst ds,v,n,h=>by
  simp only [RD] at h ⊢
  obtain⟨a,vs,e,hs,hr⟩:=h
  exact⟨a,vs,e,hs.elim (λz=>.inl ⟨⟨z.1,qPt CI z.2 (λr=>by cases r) λo r=>by cases r⟩,yM CI z.2 (λr=>by cases r) λo r=>by cases r⟩) .inr,RDs.off CI (by simpa only [aX] using n) hr⟩
 | .dct _ _,_,_,h=>by simp only [RD] at h
 | .obj kn ds,v,n,h=>by
  simp only [RD] at h ⊢
  simp only [aX,aL,decide_eq_true_eq] at n
  obtain⟨a,vs,e,hs,hr⟩:=h
  obtain⟨dx,fs,h1,h2⟩:=hs.ins n.1
  refine⟨a,vs,e,.of n.1 ⟨dx,fs,?_,h2⟩,RDs.off CI n.2 hr⟩
  have z:cs.lookup a=none:=by
   cases z:cs.lookup a with
   | none=>rfl
   | some o=>have e:=CI a o z;rw [h1] at e;cases e
  rw [cJ z]
  exact h1
theorem RDs.off (CI:cP H cs):∀{ds:List D}{vs:List V},dG ds=true->RDs K H F ds vs->RDs K (bN H cs) (Fc F cs) ds vs
 | [],_,_,h=>h
 | d::ds,vs,n,h=>by
  simp only [RDs] at h ⊢
  simp only [dG,aL] at n
  obtain⟨v,r,e,h1,h2⟩:=h
  exact⟨v,r,e,RD.off CI n.1 h1,RDs.off CI n.2 h2⟩
end
theorem zc:Keep H (Fc F cs) H F:=⟨λ_ _ h=>h,λ_ _ f h=>⟨f.1,h⟩,λ_ _ _ _ h=>h,λ_ _ _ h=>h⟩
theorem qM5 (n:∀a o,cs.lookup a=some o->H a=none):Same H (bT H cs):=λb x e=>by
 cases z:cs.lookup b with
 | none=>rw [du z];exact e
 | some o=>rw [n b o z] at e;cases e
theorem xF (d:∀a,H a=none->¬F a) (n:∀a o,cs.lookup a=some o->H a=none):Gr H F (bT H cs) F:=⟨qM5 n,λ_ h=>h,λ_ h=>.inl h,λa e=>by
 cases z:cs.lookup a with
 | none=>rw [du z] at e;exact d a e
 | some o=>rw [gR z] at e;cases e⟩
theorem qP1 (d:∀a,H a=none->¬F a) (n:∀a o,cs.lookup a=some o->H a=none) (CI:cP H' cs) (g:Gr (bT H cs) F H' F'):Gr H F (bN H' cs) F':=by
 refine⟨λb x e=>?_,g.sub,λa f=>?_,λa e f=>?_⟩
 ·have z:cs.lookup b=none:=by
   cases z:cs.lookup b with
   | none=>rfl
   | some o=>rw [n b o z] at e;cases e
  rw [cJ z]
  exact g.same b x (by rw [du z];exact e)
 ·rcases g.new a f with q|q
  ·exact .inl q
  ·cases z:cs.lookup a with
   | none=>rw [du z] at q;exact .inr q
   | some o=>exact .inr (n a o z)
 ·cases z:cs.lookup a with
  | none=>rw [cJ z] at e;exact g.dom a e f
  | some o =>
   rcases g.new a f with q|q
   ·exact d a (n a o z) q
   ·rw [gR z] at q;cases q
theorem qOI (n:∀a o,cs.lookup a=some o->H a=none) (CI:cP H' cs) {r:R}{v:V}(nc:aX r.2=true) (h:RR K (bT H cs) H' F' r v):RR K H (bN H' cs) F' r v:=by
 obtain⟨b,d⟩:=r
 cases b with
 | false=>exact RD.mono zc (RD.off CI nc h)
 | true =>
  obtain⟨a,ds,vs,rfl,rfl,e3,e4,e5,e6⟩:=h
  have z:cs.lookup a=none:=by
   cases z:cs.lookup a with
   | none=>rfl
   | some o=>rw [gR z] at e3;cases e3
  exact⟨a,ds,vs,rfl,rfl,by rw [du z] at e3;exact e3,e4,by rw [cJ z];exact e5,RDs.mono zc (RDs.off CI (by simpa only [aX] using nc) e6)⟩
theorem qSk (d:∀a,H a=none->¬F a) (CI:cP H cs) (n:∀a o,cs.lookup a=some o->H' a=none) (g:Gr (bN H cs) (Fc F cs) H' F'):Gr H F (bT H' cs) (λa=>F' a∨F a):=by
 have sm:Same H (bT H' cs):=λb x e=>by
  cases z:cs.lookup b with
  | none=>rw [du z];exact g.same b x (by rw [cJ z];exact e)
  | some o=>rw [CI b o z] at e;cases e;exact gR z
 refine⟨sm,λ_ f=>.inr f,λa f=>?_,λa e f=>?_⟩
 ·rcases f with f|f
  ·rcases g.new a f with q|q
   ·exact .inl q.1
   ·cases z:cs.lookup a with
    | none=>rw [cJ z] at q;exact .inr q
    | some o=>exact Qn f (g.dom a (n a o z))
  ·exact .inl f
 ·rcases f with f|f
  ·cases z:cs.lookup a with
   | none=>rw [du z] at e;exact g.dom a e f
   | some o=>rw [gR z] at e;cases e
  ·cases q:H a with
   | none=>exact d a q f
   | some x=>rw [sm a x q] at e;cases e
theorem qM6 (d:∀a,H a=none->¬F a):∀a,bN H cs a=none->¬Fc F cs a:=λa e f=>by
 rw [cJ f.2] at e
 exact d a e f.1
theorem qRH (d:∀a,H a=none->¬F a) (CI:cP H cs) (n:∀a o,cs.lookup a=some o->H' a=none) (d':∀a,H' a=none->¬F' a) {r:R}{v:V}(h:RR K (bN H cs) H' F' r v):RR K H (bT H' cs) (λa=>F' a∨F a) r v:=by
 have s:=xF (F:=F') d' n
 have k2:Keep (bT H' cs) F' (bT H' cs) (λa=>F' a∨F a):=⟨λ_ _ h=>h,λ_ _ f h=>⟨.inl f,h⟩,λ_ _ _ _ h=>h,λ_ _ _ h=>h⟩
 obtain⟨b,dd⟩:=r
 cases b with
 | false=>exact RD.mono k2 (RD.mono s.keep h)
 | true =>
  obtain⟨a,ds,vs,rfl,rfl,e3,e4,e5,e6⟩:=h
  have z:cs.lookup a=none:=by
   cases z:cs.lookup a with
   | none=>rfl
   | some o=>rw [n a o z] at e5;cases e5
  rw [cJ z] at e3
  exact⟨a,ds,vs,rfl,rfl,e3,λf=>f.elim e4 (d a e3),s.same _ _ e5,RDs.mono k2 (RDs.mono s.keep e6)⟩
end
end Dw
namespace Dw
open PySem PySem.Spec PyProof.Rows L2
theorem jw (h:a.natAbs<2^n):Builtin.Int.intBits a<=n:=by
 unfold Builtin.Int.intBits
 split
 ·exact jN _
 ·rename_i hz
  have h0:a.natAbs≠0:=λz=>by
   have:a=0:=ybz.mp z
   subst this;simp at hz
  have:=(nM h0).mpr h
  omega
theorem qJ5 (ha:Builtin.Int.intBits a<=1048640) (hb:Builtin.Int.intBits b<=1048640):IntMulOk a b:=by
 have h:Builtin.Int.intTooBig (Builtin.Int.intBits a+Builtin.Int.intBits b)=false:=by
  unfold Builtin.Int.intTooBig bitsLine
  exact Qj (by omega)
 unfold IntMulOk
 rw [h,jS]
 exact fg
theorem qPC (h:cZ a b=true):IntMulOk a b:=by
 have h':=Qp h
 rcases h' with ⟨h1,h2⟩|h1|h1|⟨h1,h2⟩
 ·exact IntMulOk.of_bits (dM (jw h1) (by decide)) (dM (jw h2) (by decide))
 ·exact IntMulOk.of_left (jw h1)
 ·exact IntMulOk.of_right (jw h1)
 ·exact qJ5 (jw h1) (jw h2)
section
variable {X:Cx}
theorem op_mulD:OpR X (binaryOp .Mult) (rI (λi j=>cZ i j=true) λi j=>.int (i * j)):=hO λ_ _ _ _ _ _ _ hc q=>mul_int q (qPC hc)
theorem qJW:OpR X (binaryOp .FloorDiv) (rI (λ_ j=>fG j=true) λi j=>.int (i.fdiv j)):=hO λi j _ _ _ _ _ hc q=>by
 have h:=Qp hc
 refine floordiv_int h.1 q (.inl (PyProof.noPylong_of_log2 ?_))
 rcases h.2 with h2|h2
 ·have:=(nM (λz=>h.1 (ybz.mp z))).mpr h2
  omega
 ·have:=(nM (λz=>h.1 (ybz.mp z))).mpr h2
  omega
theorem qM2:OpR X (binaryOp .Mod) (rI (λ_ j=>fG j=true) λi j=>.int (i.fmod j)):=hO λ_ _ _ _ _ _ _ hc q=>mod_int' (Qp hc).1 q
theorem qM1:OpR X (binaryOp .Pow) (rI (λi j=>fR i j=true) λi j=>.int (i^j.toNat)):=hO λi j _ _ _ _ _ hc q=>by
 obtain⟨h1,h2,h3⟩:=Qp hc
 refine pow_int h2 ?_ q
 have:=jw h1
 calc (Builtin.Int.intBits i:Int) * j<=240 * 200:=Int.mul_le_mul (by exact_mod_cast this) h3 h2 (by decide)
  _<=2^27:=by decide
theorem qKa (l:Addr) (items:Array Value) (n:Nat) (sl:Array (Option Value)) (b:Addr) (items2:Array Value) (n2:Nat) (fN:Array (Option Value)) (hc0:items.size+items2.size<=sizeLine) :
  Meets (Builtin.«list.__add__» ⟨[.ref l,.ref b],[]⟩) (λ_ R s=>s.heap.get? l=some ⟨.type "list",none,.seq items n,sl⟩/\s.heap.get? b=some ⟨.type "list",none,.seq items2 n2,fN⟩ /\
   R (.ok (.ret (Value.ref s.heap.objs.size))) { s with heap:=s.heap.push { cls:=.type "list",data:=.seq (items++items2) } }):=
 .of_wp λprog w A R s h=>by
  obtain⟨hp,g,d,tk,os⟩:=s
  obtain⟨hl,hb,h⟩:=h
  have f3:=F.sub_list_list
  wp_walk using AutoSeq1.wpAny_loadPart' hl,AutoSeq1.wpAny_loadPart' hb
  exact⟨_,rfl,h⟩
theorem qJ9 (l:Addr) (items:Array Value) (n:Nat) (sl:Array (Option Value)) (x:Int) (u:Tok) (hc0:¬(!Builtin.List.listFitsIndex x)=true) (hc1:¬items.size * x.toNat > (2^63 - 1) / 8) (hc2:¬Builtin.List.listTooLong (items.size * x.toNat)=true) :
  Meets (Builtin.«list.__mul__» ⟨[.ref l,.int x u],[]⟩) (λ_ R s=>s.heap.get? l=some ⟨.type "list",none,.seq items n,sl⟩ /\
   R (.ok (.ret (Value.ref s.heap.objs.size))) { s with heap:=s.heap.push { cls:=Value.type "list",data:=Data.seq (List.foldl (λx1 x2=>x1++x2) #[] (List.replicate (if items.isEmpty=true then 0 else x.toNat) items)) } }):=
 .of_wp λprog w A R s h=>by
  obtain⟨hp,g,d,tk,os⟩:=s
  obtain⟨hl,h⟩:=h
  have hsz:=AutoListH.joined_fits hc2
  wp_walk
  refine wpAny_ite_false (Qj (Nat.not_lt.mpr hsz)) ?_
  wp_walk
  exact⟨_,rfl,h⟩
theorem qRI (a:Int) (t:Tok) (l:Addr) (items:Array Value) (n:Nat) (sl:Array (Option Value)) :
  Meets (Builtin.«int.__rmul__» ⟨[.int a t,.ref l],[]⟩) (λ_ R s=>s.heap.get? l=some ⟨.type "list",none,.seq items n,sl⟩/\R (.ok (.ret Value.notImplemented)) s):=
 .of_wp λprog w A R s h=>by
  obtain⟨hp,g,d,tk,os⟩:=s
  obtain⟨hl,h⟩:=h
  wp_walk
  exact⟨_,rfl,h⟩
theorem Inv.lobj (I:Inv X pins Z H s) (h:SqL X.K H a xs) :
  ∃(its:List Value) (n:Nat) (sl:Array (Option Value)),Vals xs its/\xs.length=its.length/\s.heap.get? a=some ⟨.type "list",none,.seq its.toArray n,sl⟩/\xs.length<=sizeLine:=by
 obtain⟨its,r,⟨⟨c,dd,da,sl⟩,n,e,e1,e2,e3⟩,z⟩:=I.list h
 simp only at e1 e2 e3
 subst e1 e2 e3
 exact⟨its,n,sl,r,r.length,e,z⟩
def qRM (K:Qb):R2:=λx y H Q=>∃l b xs zs,x=.ref l/\y=.ref b/\SqL K H l xs/\SqL K H b zs/\xs.length+zs.length<=sizeLine/\∀p,H p=none->Q (.ref p) (ay H p (.lst (xs++zs)))
theorem op_catD:OpR X (binaryOp .Add) (qRM X.K):=by
 intro pins s Z H x y v u Q I rx ry h
 obtain⟨l,b,xs,zs,rfl,rfl,hH,hB,hz,q⟩:=h
 cases rx
 cases ry
 obtain⟨its,n,sl,r,hl,e,z⟩:=Inv.lobj I hH
 obtain⟨its2,n2,fN,r2,hl2,e2,z2⟩:=Inv.lobj I hB
 refine concat_meets ⟨_,e,rfl⟩ ⟨_,e2,rfl⟩ noFill_list_add seq_list_add F.slot_list_add F.entry_list_add (F.args_list_add_2 _ _)
  (qKa l its.toArray n sl b its2.toArray n2 fN (by rw [aZ,aZ];omega)) ⟨e,e2,?_⟩
 have ea:its.toArray++its2.toArray=(its++its2).toArray:=by simp
 rw [ea]
 exact⟨.ref _,_,I.lnew (t':=s.toks) (r.append r2) (by rw [ik];omega),rfl,q _ I.fresh⟩
def qRK (K:Qb):R2:=λx y H Q=>∃l k xs,x=.ref l/\y=.int k/\SqL K H l xs/\-(2^63)<=k/\k<2^63/\xs.length * k.toNat<=sizeLine /\
 ∀p,H p=none->Q (.ref p) (ay H p (.lst (List.replicate k.toNat xs).flatten))
theorem qM0:OpR X (binaryOp .Mult) (qRK X.K):=by
 intro pins s Z H x y v u Q I rx ry h
 obtain⟨l,k,xs,rfl,rfl,hH,h1,h2,hz,q⟩:=h
 cases rx
 obtain⟨t,rfl⟩:=ry
 obtain⟨its,n,sl,r,hl,e,z⟩:=Inv.lobj I hH
 have hlen:its.toArray.size * k.toNat<=sizeLine:=by rw [aZ,<-hl];exact hz
 have hcap:¬its.toArray.size * k.toNat > (2^63 - 1) / 8:=by
  have:(sizeLine:Nat)<=(2^63 - 1) / 8:=by decide
  omega
 have hfit:¬(!Builtin.List.listFitsIndex k)=true:=by rw [fitsIndex_both h1 h2];exact fg
 have hlong:¬Builtin.List.listTooLong (its.toArray.size * k.toNat)=true:=by rw [sY hlen];exact fg
 have hnew:List.foldl (λx1 x2=>x1++x2) #[] (List.replicate (if its.toArray.isEmpty=true then 0 else k.toNat) its.toArray)=(List.replicate k.toNat its).flatten.toArray:=by
  have f0:∀m:Nat,List.foldl (λx1 x2=>x1++x2) #[] (List.replicate m its.toArray)=(List.replicate m its).flatten.toArray:=λm=>by simpa using A9 its m []
  rw [f0]
  cases its with
  | nil=>simp
  | cons a r'=>rw [Qm (by simp)]
 refine wpAny_binaryOp_repeat_ref (T:="list") (U:="int") (by decide) ⟨_,e,rfl⟩ (λs'=>typeIs_int s' k t) noFill_list_mul F.fills_int_mul F.slot_int_rmul repeat_list F.slot_int_index.lookup
  (call_meets F.slot_int_rmul (typeIs_int s k t) F.entry_int_rmul (F.args_int_rmul_2 _ _) (qRI k t l its.toArray n sl)
   ⟨e,rfl,⟨_,e,rfl⟩,call_meets F.slot_list_mul ⟨_,e,rfl⟩ F.entry_list_mul (F.args_list_mul_2 _ _) (qJ9 l its.toArray n sl k t hfit hcap hlong) ⟨e,?_⟩⟩)
 rw [hnew]
 exact⟨.ref _,_,I.lnew (t':=s.toks) (r.rep k.toNat) (by rw [qNj,Nat.mul_comm];exact hz),rfl,q _ I.fresh⟩
theorem qIM (hc:X.calm=true):CallR X (.builtin "max") (λxs H Q=>∃i j k,xs=[.int i,.int j,.int k]/\Q (.int (if k > (if j > i then j else i) then k else (if j > i then j else i))) H):=by
 intro pins s Z H xs us Q I r h
 obtain⟨i,j,k,rfl,q⟩:=h
 obtain _|⟨⟨t,rfl⟩,_|⟨⟨t',rfl⟩,_|⟨⟨t2,rfl⟩,_|_⟩⟩⟩:=r
 refine max_three_ints (I.ok.hd hc) λh' tk hk=>?_
 have I1:Inv X pins Z H { s with heap:=h',toks:=tk }:=I.kept hk
 have fin:∀(z:Int) (tok:Tok),z=(if k > (if j > i then j else i) then k else (if j > i then j else i))->EP X pins Z Q (.int z tok) { s with heap:=h',toks:=tk }:=λz tok e=>⟨.int z,H,I1,⟨_,rfl⟩,by rw [e];exact q⟩
 by_cases hba:j > i<;>by_cases hc1:k > j<;>by_cases hc2:k > i<;>simp only [hba,hc1,hc2,if_true,if_false] at fin ⊢<;>first|exact fin _ _ rfl|exact fin _ _ (by omega)
end
end Dw
namespace Dw
open PySem PySem.Spec PyProof.Rows L2
section
variable {X:Cx}
theorem pR:∀{is:List Int}{its:List Value},Vals (is.map V.int) its->∃xs:List (Int×Tok),its=xs.map (λp=>Value.int p.1 p.2)/\xs.map (·.1)=is
 | [],_,.nil=>⟨[],rfl,rfl⟩
 | i::is,_,.cons ⟨t,e⟩ r=>by
  obtain⟨xs,h1,h2⟩:=pR r
  exact⟨(i,t)::xs,by rw [e,h1];rfl,by rw [gd,h2]⟩
theorem qE0 (xs:Array (Int×Tok)):preSum (numAt xs) xs.size=(xs.toList.map (·.1)).sum:=by
 rw [preSum_eq,List.take_of_length_le (by simp)]
theorem qIJ (hc:X.calm=true):CallR X (.builtin "sum") (λxs H Q=>∃(p:Addr) (is:List Int),xs=[.ref p]/\SqL X.K H p (is.map V.int)/\Q (.int is.sum) H):=by
 intro pins s Z H xs us Q I r h
 obtain⟨p,is,rfl,hq,q⟩:=h
 obtain⟨u,rfl,ru⟩:=fH r
 cases ru
 obtain⟨its,rv,pl,z⟩:=I.list hq
 obtain⟨ps,rfl,rfl⟩:=pR rv
 have e:(ps.map λp=>Value.int p.1 p.2).toArray=intItems ps.toArray:=by simp [intItems]
 have hl:s.heap.IsList p (intItems ps.toArray):=by rw [<-e];exact pl.isList
 refine sum_intListG (I.ok.hd hc) hl λh' tk t' hk=>?_
 rw [qE0]
 exact⟨.int _,H,I.kept hk,⟨_,rfl⟩,q⟩
theorem qJ6 (h:pU is=some m):m∈is/\∀a∈is,m<=a:=by
 cases is with
 | nil=>cases h
 | cons a r =>
  cases h
  have:∀(l:List Int) (b:Int),(l.foldl (λm x=>if x<m then x else m) b=b∨l.foldl (λm x=>if x<m then x else m) b∈l)/\l.foldl (λm x=>if x<m then x else m) b<=b/\∀y∈l,l.foldl (λm x=>if x<m then x else m) b<=y:=by
   intro l
   induction l with
   | nil=>intro b;exact⟨.inl rfl,Int.le_refl _,λ_ h=>nomatch h⟩
   | cons x l ih =>
    intro b
    rw [lq]
    obtain⟨h1,h2,h3⟩:=ih (if x<b then x else b)
    generalize l.foldl (λm x=>if x<m then x else m) (if x<b then x else b)=z at h1 h2 h3
    refine⟨?_,?_,λy hy=>?_⟩
    ·rcases h1 with h1|h1
     ·split at h1
      ·exact .inr (h1▸dF)
      ·exact .inl h1
     ·exact .inr (dq _ h1)
    ·split at h2<;>omega
    ·rcases yaf.mp hy with rfl|hy
     ·split at h2<;>omega
     ·exact h3 y hy
  obtain⟨h1,h2,h3⟩:=this r a
  exact⟨yaf.mpr h1,λy hy=>(yaf.mp hy).elim (λe=>e▸h2) (h3 y)⟩
theorem qJ3 (h:pT is=some m):m∈is/\∀a∈is,a<=m:=by
 cases is with
 | nil=>cases h
 | cons a r =>
  cases h
  have:∀(l:List Int) (b:Int),(l.foldl (λm x=>if m<x then x else m) b=b∨l.foldl (λm x=>if m<x then x else m) b∈l)/\b<=l.foldl (λm x=>if m<x then x else m) b/\∀y∈l,y<=l.foldl (λm x=>if m<x then x else m) b:=by
   intro l
   induction l with
   | nil=>intro b;exact⟨.inl rfl,Int.le_refl _,λ_ h=>nomatch h⟩
   | cons x l ih =>
    intro b
    rw [lq]
    obtain⟨h1,h2,h3⟩:=ih (if b<x then x else b)
    generalize l.foldl (λm x=>if m<x then x else m) (if b<x then x else b)=z at h1 h2 h3
    refine⟨?_,?_,λy hy=>?_⟩
    ·rcases h1 with h1|h1
     ·split at h1
      ·exact .inr (h1▸dF)
      ·exact .inl h1
     ·exact .inr (dq _ h1)
    ·split at h2<;>omega
    ·rcases yaf.mp hy with rfl|hy
     ·split at h2<;>omega
     ·exact h3 y hy
  obtain⟨h1,h2,h3⟩:=this r a
  exact⟨yaf.mpr h1,λy hy=>(yaf.mp hy).elim (λe=>e▸h2) (h3 y)⟩
theorem qIL (hc:X.calm=true):CallR X (.builtin "min") (λxs H Q=>∃(p:Addr) (is:List Int) (m:Int),xs=[.ref p]/\SqL X.K H p (is.map V.int)/\pU is=some m/\Q (.int m) H):=by
 intro pins s Z H xs us Q I r h
 obtain⟨p,is,m,rfl,hq,hm,q⟩:=h
 obtain⟨u,rfl,ru⟩:=fH r
 cases ru
 obtain⟨its,rv,pl,z⟩:=I.list hq
 obtain⟨ps,rfl,rfl⟩:=pR rv
 have e:(ps.map λp=>Value.int p.1 p.2).toArray=intItems ps.toArray:=by simp [intItems]
 have hl:s.heap.IsList p (intItems ps.toArray):=by rw [<-e];exact pl.isList
 obtain⟨m1,m2⟩:=qJ6 hm
 have hsz:0<ps.toArray.size:=by
  cases ps with
  | nil=>cases hm
  | cons _ _=>simp
 refine min_intList (I.ok.hd hc) hl hsz λv h' tk hv hk=>?_
 obtain⟨t,rfl⟩:=intItems_at hv
 obtain⟨h1,h2⟩:=argBest_lt (numAt ps.toArray) (ps.toArray.size - 1)
 have key:numAt ps.toArray (argBest (λi j=>decide (numAt ps.toArray i<numAt ps.toArray j)) (ps.toArray.size - 1))=m:=by
  refine Int.le_antisymm ?_ (m2 _ ?_)
  ·obtain⟨j,hj,e⟩:=List.getElem_of_mem m1
   have:=h2 j (by simp at hj ⊢;omega)
   refine lu this (Int.le_of_eq ?_)
   rw [<-e]
   simp [numAt] at hj ⊢
   rw [eJ hj];rfl
  ·generalize argBest (λi j=>decide (numAt ps.toArray i<numAt ps.toArray j)) (ps.toArray.size - 1)=k at h1 ⊢
   have hk:k<ps.length:=by simp at h1 hsz;omega
   refine yaI.mpr ⟨ps[k],iY hk,?_⟩
   simp [numAt]
   rw [eJ hk];rfl
 rw [key]
 exact⟨.int _,H,I.kept hk,⟨_,rfl⟩,q⟩
theorem qIO (hc:X.calm=true):CallR X (.builtin "max") (λxs H Q=>∃(p:Addr) (is:List Int) (m:Int),xs=[.ref p]/\SqL X.K H p (is.map V.int)/\pT is=some m/\Q (.int m) H):=by
 intro pins s Z H xs us Q I r h
 obtain⟨p,is,m,rfl,hq,hm,q⟩:=h
 obtain⟨u,rfl,ru⟩:=fH r
 cases ru
 obtain⟨its,rv,pl,z⟩:=I.list hq
 obtain⟨ps,rfl,rfl⟩:=pR rv
 have e:(ps.map λp=>Value.int p.1 p.2).toArray=intItems ps.toArray:=by simp [intItems]
 have hl:s.heap.IsList p (intItems ps.toArray):=by rw [<-e];exact pl.isList
 obtain⟨m1,m2⟩:=qJ3 hm
 have hsz:0<ps.toArray.size:=by
  cases ps with
  | nil=>cases hm
  | cons _ _=>simp
 refine max_intList (I.ok.hd hc) hl hsz λv h' tk hv hk=>?_
 obtain⟨t,rfl⟩:=intItems_at hv
 obtain⟨h1,h2⟩:=argBest_gt (numAt ps.toArray) (ps.toArray.size - 1)
 have key:numAt ps.toArray (argBest (λi j=>decide (numAt ps.toArray i > numAt ps.toArray j)) (ps.toArray.size - 1))=m:=by
  refine Int.le_antisymm (m2 _ ?_) ?_
  ·generalize argBest (λi j=>decide (numAt ps.toArray i > numAt ps.toArray j)) (ps.toArray.size - 1)=k at h1 ⊢
   have hk:k<ps.length:=by simp at h1 hsz;omega
   refine yaI.mpr ⟨ps[k],iY hk,?_⟩
   simp [numAt]
   rw [eJ hk];rfl
  ·obtain⟨j,hj,e⟩:=List.getElem_of_mem m1
   have:=h2 j (by simp at hj ⊢;omega)
   refine lu (Int.le_of_eq ?_) this
   rw [<-e]
   simp [numAt] at hj ⊢
   rw [eJ hj];rfl
 rw [key]
 exact⟨.int _,H,I.kept hk,⟨_,rfl⟩,q⟩
theorem qIS (hc:X.calm=true):CallR X (.builtin "all") (λxs H Q=>∃(p:Addr) (bs:List Bool),xs=[.ref p]/\SqL X.K H p (bs.map V.bl)/\Q (.bl (bs.all id)) H):=by
 intro pins s Z H xs us Q I r h
 obtain⟨p,bs,rfl,hq,q⟩:=h
 obtain⟨u,rfl,ru⟩:=fH r
 cases ru
 obtain⟨its,rv,pl,z⟩:=I.list hq
 have hlen:bs.length=its.length:=by simpa using rv.length
 have hlt:p<s.heap.objs.size:=by obtain⟨_,e,_⟩:=pl.isList;exact Qi e
 refine call_all_walk (wpAny_pyIter_list pl.isList ?_)
 refine⟨s.heap.objs.size,_,_,_,_,_,λi=>(bs[i]?).getD false,rfl,Walks.list (A:=X.A.in1) (I.ok.hd hc) _ p (bR hlt) its.toArray,⟨⟨_,Qh _ rfl,rfl,rfl⟩,pl.isList.push _⟩,?_,λh' tk hk=>?_⟩
 ·intro i v s' Q' E' hv hQ
  have hi:its[i]?=some v:=by simpa using hv
  have hib:i<bs.length:=by
   have:=(yal.mp hi).1
   omega
  obtain⟨u,e1,e2⟩:=rv.get (i:=i) (x:=.bl bs[i]) (by simp [hib])
  rw [hi] at e1
  cases e1
  cases e2
  have:(bs[i]?).getD false=bs[i]:=by simp [hib]
  have hQ':Q' ((bs[i]?).getD false) s':=hQ
  rw [this] at hQ'
  exact wpAny_truthy_bool hQ'
 ·have e:(List.range its.toArray.size).all (λi=>(bs[i]?).getD false)=bs.all id:=by
   rw [aZ,<-hlen,qL,yaH,yaH]
   constructor
   ·intro h b hb
    obtain⟨i,hi,rfl⟩:=yaX.mp hb
    simpa [hi] using h i (by simpa using hi)
   ·intro h i hi
    have hi':i<bs.length:=by simpa using hi
    simpa [hi'] using h bs[i] (iY hi')
  rw [e]
  refine⟨.bl _,H,?_,rfl,q⟩
  refine I.kept (t':=tk) λb o eb=>hk b o (λhb=>?_) (Qg _ eb)
  have:b=s.heap.objs.size:=by simpa using hb
  subst this
  exact Qn (Qi eb) (fh _)
theorem qHl (is:List Int):(cI is).Perm is/\(cI is).Pairwise (·<=·):=by
 refine⟨List.mergeSort_perm is _,?_⟩
 have h:=List.pairwise_mergeSort (le:=λa b:Int=>decide (a<=b)) (λa b c h1 h2=>by simp at *;omega) (λa b=>by simp;omega) is
 exact h.imp λh=>by simpa using h
theorem qEG:CallR X (.builtin "sorted") (λxs H Q=>∃(p:Addr) (is:List Int),xs=[.ref p]/\(SqL X.K H p (is.map V.int)∨SqT X.K H p (is.map V.int))/\is.length<64/\∀l,H l=none->Q (.ref l) (ay H l (.lst ((cI is).map V.int)))):=by
 intro pins s Z H xs us Q I r h
 obtain⟨p,is,rfl,hq,hl,q⟩:=h
 obtain⟨u,rfl,ru⟩:=fH r
 cases ru
 have mU:(64:Nat)<=sizeLine:=by decide
 have ob:∃(its:List Value) (T:String) (o:Obj) (n:Nat),(T="list"∨T="tuple")/\Vals (is.map V.int) its/\s.heap.get? p=some o/\o.cls=.type T/\o.data=.seq its.toArray n:=by
  rcases hq with hq|hq
  ·obtain⟨its,n,sl,rv,_,e,_⟩:=Inv.lobj I hq
   exact⟨its,_,_,n,.inl rfl,rv,e,rfl,rfl⟩
  ·obtain⟨its,rv,⟨o,e1,e2,n,e3⟩,_⟩:=I.tuple hq
   exact⟨its,_,o,n,.inr rfl,rv,e1,e2,e3⟩
 obtain⟨its,T,o,n,hT,rv,e1,e2,e3⟩:=ob
 have hI:IntsAre its is:=qGJ rv
 have hlen:its.length=is.length:=by simpa using rv.length.symm
 refine PySem.Calls.call_function_entry kind_sorted plain_sorted entry_sorted (args_sorted1 _) ?_
 unfold Builtin.«sorted»
 refine Qc (m:=checkCount "sorted" 1 1 _) (Qd ?_)
 refine Qc (wpAny_collect_seq p hT e1 e2 e3 (λh' kp=>?_) (by rw [aZ];omega))
 refine Qc (wpAny_newList ?_ (by rw [List.toList_toArray];omega))
 have hoL:(h'.push (seqObj "list" its.toArray 0)).get? h'.objs.size=some (seqObj "list" its.toArray 0):=Qh _ rfl
 refine Qc (wpAny_holding (wpAny_call_entry slot_list_sort ⟨_,hoL,rfl⟩ entry_list_sort (list_sort_tree hoL hI (by omega) λout ns' a1 a2 a3=>⟨_,rfl,?_⟩) (args_list_sort _)))
 obtain⟨s1,s2⟩:=qHl is
 obtain rfl:ns'=cI is:=AS (a2.trans s1.symm) a3 s2
 have I1:Inv X pins Z H { s with heap:=h' }:=I.kept (t':=s.toks) kp
 obtain⟨ep,he⟩:=sortedHeap_at (out:=out) hoL
 have kept:∀b ob,h'.get? b=some ob->(sortedHeap (h'.push (seqObj "list" its.toArray 0)) h'.objs.size its out).get? b=some ob:=λb ob hb=>by
  have hlt:=Qi hb
  rw [sortedHeap_old (bR hlt) (by rw [Heap.size_push];exact Nat.lt_succ_of_lt hlt)]
  exact Qg _ hb
 refine Qd ⟨_,rfl,.ref h'.objs.size,_,I1.laid (t':=s.toks) (o:=.lst ((cI is).map V.int)) kept (aK _) ⟨?_,out.toList,ep,tQ a1,?_⟩,rfl,q _ (I1.hok.fresh (aK _))⟩
 ·rw [lr,s1.length_eq]
  omega
 ·rw [he]
theorem qIR (hc:X.calm=true):CallR X (.builtin "any") (λxs H Q=>∃(p:Addr) (bs:List Bool),xs=[.ref p]/\SqL X.K H p (bs.map V.bl)/\Q (.bl (bs.any id)) H):=by
 intro pins s Z H xs us Q I r h
 obtain⟨p,bs,rfl,hq,q⟩:=h
 obtain⟨u,rfl,ru⟩:=fH r
 cases ru
 obtain⟨its,rv,pl,z⟩:=I.list hq
 have hlen:bs.length=its.length:=by simpa using rv.length
 have hlt:p<s.heap.objs.size:=by obtain⟨_,e,_⟩:=pl.isList;exact Qi e
 refine call_any_walk (wpAny_pyIter_list pl.isList ?_)
 refine⟨s.heap.objs.size,_,_,_,_,_,λi=>(bs[i]?).getD false,rfl,Walks.list (A:=X.A.in1) (I.ok.hd hc) _ p (bR hlt) its.toArray,⟨⟨_,Qh _ rfl,rfl,rfl⟩,pl.isList.push _⟩,?_,λh' tk hk=>?_⟩
 ·intro i v s' Q' E' hv hQ
  have hi:its[i]?=some v:=by simpa using hv
  have hib:i<bs.length:=by
   have:=(yal.mp hi).1
   omega
  obtain⟨u,e1,e2⟩:=rv.get (i:=i) (x:=.bl bs[i]) (by simp [hib])
  rw [hi] at e1
  cases e1
  cases e2
  have:(bs[i]?).getD false=bs[i]:=by simp [hib]
  have hQ':Q' ((bs[i]?).getD false) s':=hQ
  rw [this] at hQ'
  exact wpAny_truthy_bool hQ'
 ·have e:(List.range its.toArray.size).any (λi=>(bs[i]?).getD false)=bs.any id:=by
   rw [aZ,<-hlen,qL,lx,lx]
   constructor
   ·rintro⟨i,hi,hb⟩
    have hi':i<bs.length:=by simpa using hi
    exact⟨bs[i],iY hi',by simpa [hi'] using hb⟩
   ·rintro⟨b,hb,h⟩
    obtain⟨i,hi,rfl⟩:=yaX.mp hb
    exact⟨i,by simpa using hi,by simpa [hi] using h⟩
  rw [e]
  refine⟨.bl _,H,?_,rfl,q⟩
  refine I.kept (t':=tk) λb o eb=>hk b o (λhb=>?_) (Qg _ eb)
  have:b=s.heap.objs.size:=by simpa using hb
  subst this
  exact Qn (Qi eb) (fh _)
end
theorem Ba (A:Around):A.in1.units=A.units+1:=rfl
theorem pM:∀ds es:List D,gn ds es=((List.range (min ds.length es.length)).all (λj=>aW (ds.getD j .non) (es.getD j .non))&&ds.length == es.length)
 | [],[]=>rfl
 | [],e::es=>by
  have h:(([]:List D).length == (e::es).length)=false:=rfl
  rw [h,jS];rfl
 | d::ds,[]=>by
  have h:((d::ds).length == ([]:List D).length)=false:=rfl
  rw [h,jS];rfl
 | d::ds,e::es=>by
  have h:=pM ds es
  simp only [gn,h,fC,Nat.succ_min_succ,List.range_succ_eq_map,eS,List.getD_cons_zero,List.all_map]
  have e2:((λj=>aW ((d::ds).getD j .non) ((e::es).getD j .non)) ∘ Nat.succ)=λj=>aW (ds.getD j .non) (es.getD j .non):=by funext j;simp
  rw [e2,Bool.and_assoc]
  congr 2
  simp
mutual
theorem An:∀d:D,aW d d=true
 | .non=>by simp
 | .bl _=>by simp
 | .int _=>by simp
 | .str _=>by simp
 | .tup ds=>by simpa using pK ds
 | .lst ds=>by simpa using pK ds
 | .dct _ _=>by simp
 | .obj _ ds=>by simpa using pK ds
theorem pK:∀ds:List D,gn ds ds=true
 | []=>by simp
 | d::ds=>by simp [An d,pK ds]
end
section
variable {X:Cx}{pins:List (Addr×Obj)}{Z:L2.St}{H:Hp}{s:Shared}{F:Fz}
theorem xJ (I:Inv X pins Z H s) (h:SqL X.K H a xs) (h':SqT X.K H a ys):False:=by
 obtain⟨its,_,p,_⟩:=I.list h
 obtain⟨its',_,p',_⟩:=I.tuple h'
 exact SeqAt.ne_of_list_tuple p.isList (show s.heap.IsTuple a its'.toArray from p') rfl
mutual
theorem RP.inj (I:Inv X pins Z H s):∀{d e:D}{v:V},bF d=true->bF e=true->RP X.K H F d v->RP X.K H F e v->d=e
 | .non,e,v,n,n',h,h'=>by
  have:=h.non;subst this
  cases e with
  | dct _ _=>exact Qn h' RP.noDct
  | obj _ _=>exact Qn n' (by simp)
  | non=>rfl
  | bl _=>exact Qn h'.bl (by simp)
  | int _=>exact Qn h'.int (by simp)
  | str _=>exact Qn h'.str (by simp)
  | tup _=>obtain⟨_,_,q,_⟩:=h'.tup;cases q
  | lst _=>obtain⟨_,_,q,_⟩:=h'.lst;cases q
 | .bl b,e,v,n,n',h,h'=>by
  have:=h.bl;subst this
  cases e with
  | dct _ _=>exact Qn h' RP.noDct
  | obj _ _=>exact Qn n' (by simp)
  | non=>exact Qn h'.non (by simp)
  | bl _=>have:=h'.bl;cases this;rfl
  | int _=>exact Qn h'.int (by simp)
  | str _=>exact Qn h'.str (by simp)
  | tup _=>obtain⟨_,_,q,_⟩:=h'.tup;cases q
  | lst _=>obtain⟨_,_,q,_⟩:=h'.lst;cases q
 | .int b,e,v,n,n',h,h'=>by
  have:=h.int;subst this
  cases e with
  | dct _ _=>exact Qn h' RP.noDct
  | obj _ _=>exact Qn n' (by simp)
  | non=>exact Qn h'.non (by simp)
  | bl _=>exact Qn h'.bl (by simp)
  | int _=>have:=h'.int;cases this;rfl
  | str _=>exact Qn h'.str (by simp)
  | tup _=>obtain⟨_,_,q,_⟩:=h'.tup;cases q
  | lst _=>obtain⟨_,_,q,_⟩:=h'.lst;cases q
 | .str b,e,v,n,n',h,h'=>by
  have:=h.str;subst this
  cases e with
  | dct _ _=>exact Qn h' RP.noDct
  | obj _ _=>exact Qn n' (by simp)
  | non=>exact Qn h'.non (by simp)
  | bl _=>exact Qn h'.bl (by simp)
  | int _=>exact Qn h'.int (by simp)
  | str _=>have:=h'.str;cases this;rfl
  | tup _=>obtain⟨_,_,q,_⟩:=h'.tup;cases q
  | lst _=>obtain⟨_,_,q,_⟩:=h'.lst;cases q
 | .tup ds,e,v,n,n',h,h'=>by
  obtain⟨a,vs,rfl,h1,h2⟩:=h.tup
  cases e with
  | dct _ _=>exact Qn h' RP.noDct
  | obj _ _=>exact Qn n' (by simp)
  | non=>exact Qn h'.non (by simp)
  | bl _=>exact Qn h'.bl (by simp)
  | int _=>exact Qn h'.int (by simp)
  | str _=>exact Qn h'.str (by simp)
  | tup es=>obtain⟨b,ws,q,h3,h4⟩:=h'.tup;cases q;rw [I.tuple_inj h3 h1] at h4;rw [RDs.inj I (by simpa using n) (by simpa using n') h2 h4]
  | lst _=>obtain⟨b,ws,q,h3,h4⟩:=h'.lst;cases q;exact (xJ I h3 h1).elim
 | .lst ds,e,v,n,n',h,h'=>by
  obtain⟨a,vs,rfl,h1,h2⟩:=h.lst
  cases e with
  | dct _ _=>exact Qn h' RP.noDct
  | obj _ _=>exact Qn n' (by simp)
  | non=>exact Qn h'.non (by simp)
  | bl _=>exact Qn h'.bl (by simp)
  | int _=>exact Qn h'.int (by simp)
  | str _=>exact Qn h'.str (by simp)
  | lst es=>obtain⟨b,ws,q,h3,h4⟩:=h'.lst;cases q;rw [I.list_inj h3 h1] at h4;rw [RDs.inj I (by simpa using n) (by simpa using n') h2 h4]
  | tup _=>obtain⟨b,ws,q,h3,h4⟩:=h'.tup;cases q;exact (xJ I h1 h3).elim
 | .dct _ _,e,v,n,n',h,h'=>Qn h RP.noDct
 | .obj _ _,e,v,n,n',h,h'=>Qn n (by simp)
theorem RDs.inj (I:Inv X pins Z H s):∀{ds es:List D}{vs:List V},cW ds=true->cW es=true->RDs X.K H F ds vs->RDs X.K H F es vs->ds=es
 | [],es,vs,n,n',h,h'=>by
  simp only [RDs] at h;subst h
  cases es with
  | nil=>rfl
  | cons _ _=>simp only [RDs] at h';obtain⟨_,_,q,_⟩:=h';cases q
 | d::ds,es,vs,n,n',h,h'=>by
  simp only [RDs] at h
  obtain⟨v,r,rfl,h1,h2⟩:=h
  cases es with
  | nil=>simp only [RDs] at h';cases h'
  | cons e es =>
   simp only [RDs] at h'
   obtain⟨v',r',q,h3,h4⟩:=h'
   cases q
   simp only [cW,aL] at n n'
   rw [RP.inj I n.1 n'.1 (.inl h1) (.inl h3),RDs.inj I n.2 n'.2 h2 h4]
end
theorem RDs.vals (h:RDs X.K H F ds vs) (r:Vals vs us) (j:Nat) (hj:j<us.toArray.size) :
  ∃v,RD X.K H F (ds.getD j .non) v/\RelV v us.toArray[j]:=by
 have l1:=RDs.length h
 have l2:=r.length
 have hj':j<us.length:=by simpa using hj
 have hd:ds[j]?=some (ds.getD j .non):=by simp [List.getD,show j<ds.length by omega]
 obtain⟨v,e1,e2⟩:=RDs.get h hd
 obtain⟨u,e3,e4⟩:=r.get e1
 refine⟨v,e2,?_⟩
 have:us.toArray[j]=u:=by
  have:=yal.mp e3
  obtain⟨_,q⟩:=this
  simpa using q
 rw [this];exact e4
theorem kU:∀{ds:List D}(j:Nat),cW ds=true->bF (ds.getD j .non)=true
 | [],j,_=>by simp [List.getD]
 | d::ds,0,h=>by simp at h;simpa using h.1
 | d::ds,j+1,h=>by simp at h;simpa using kU j h.2
theorem tP:∀{n:Nat}{ds:List D}(j:Nat),iH n ds=true->bO n (ds.getD j .non)=true
 | n,[],j,_=>by cases n<;>simp [List.getD]
 | n,d::ds,0,h=>by simp at h;simpa using h.1
 | n,d::ds,j+1,h=>by simp at h;simpa using tP j h.2
def VS (X:Cx) (H:Hp) (F:Fz) (s:Shared):D->Value->Prop
 | .non,u=>u=.none
 | .bl b,u=>u=.bool b
 | .int i,u=>∃t,u=.int i t
 | .str x,u=>∃t,u=.str x t
 | .tup ds,u=>∃a its vs,u=.ref a/\s.heap.IsTuple a its.toArray/\RDs X.K H F ds vs/\Vals vs its
 | .lst ds,u=>∃a its vs,u=.ref a/\s.heap.IsList a its.toArray/\RDs X.K H F ds vs/\Vals vs its
 | .dct _ _,_=>False
 | .obj _ _,_=>True
theorem ft (I:Inv X pins Z H s):∀{d:D}{x:V}{u:Value},RP X.K H F d x->RelV x u->VS X H F s d u
 | .non,x,u,h,r=>by have:=h.non;subst this;exact r
 | .bl _,x,u,h,r=>by have:=h.bl;subst this;exact r
 | .int _,x,u,h,r=>by have:=h.int;subst this;exact r
 | .str _,x,u,h,r=>by have:=h.str;subst this;exact r
 | .tup ds,x,u,h,r=>by
  obtain⟨a,vs,rfl,h1,h2⟩:=h.tup
  obtain⟨its,rv,p,_⟩:=I.tuple h1
  exact⟨a,its,vs,r,p,h2,rv⟩
 | .lst ds,x,u,h,r=>by
  obtain⟨a,vs,rfl,h1,h2⟩:=h.lst
  obtain⟨its,rv,p,_⟩:=I.list h1
  exact⟨a,its,vs,r,p.isList,h2,rv⟩
 | .dct _ _,x,u,h,r=>Qn h RP.noDct
 | .obj _ _,x,u,h,r=>trivial
inductive VW (X:Cx) (H:Hp) (F:Fz) (s:Shared):D->Value->Prop
 | non:VW X H F s .non .none
 | bl (b):VW X H F s (.bl b) (.bool b)
 | int (i t):VW X H F s (.int i) (.int i t)
 | str (x t):VW X H F s (.str x) (.str x t)
 | tup (ds a its vs):s.heap.IsTuple a its.toArray->RDs X.K H F ds vs->Vals vs its->VW X H F s (.tup ds) (.ref a)
 | lst (ds a its vs):s.heap.IsList a its.toArray->RDs X.K H F ds vs->Vals vs its->VW X H F s (.lst ds) (.ref a)
theorem iI {u:Value}:∀{d:D},VS X H F s d u->bF d=true->VW X H F s d u
 | .non,k,_=>by cases (show u=.none from k);exact .non
 | .bl b,k,_=>by cases (show u=.bool b from k);exact .bl b
 | .int _,⟨t,e⟩,_=>e▸.int _ t
 | .str _,⟨t,e⟩,_=>e▸.str _ t
 | .tup ds,⟨a,its,vs,e,p,h,v⟩,_=>e▸.tup ds a its vs p h v
 | .lst ds,⟨a,its,vs,e,p,h,v⟩,_=>e▸.lst ds a its vs p h v
noncomputable def flt:D->D->Bool
 | .tup _,.tup _=>false
 | .lst _,.lst _=>false
 | _,_=>true
theorem yR {A:Around}{d e:D}{u v:Value}(kx:VW X H F s d u) (ky:VW X H F s e v) (hA:A.units<cLine) (hf:flt d e=true):SeqAt.EqAt A s u v (aW d e)/\SeqAt.RcAt A s u v (aW d e)/\SeqAt.RcNeAt A s u v (!aW d e):=by
 cases kx with
 | non=>cases ky with
  | non=>exact⟨.same _,.none_none,.none_none⟩
  | bl b=>exact⟨.none_bool _,.none_bool _,.none_bool _⟩
  | int b t=>exact⟨.none_int _ _,.none_int _ _,.none_int _ _⟩
  | str b t=>exact⟨.none_str _ _,.none_str _ _,.none_str _ _⟩
  | tup es b its2 vs2 p2 hd2 hv2=>exact⟨.none_tuple p2 hA,.none_tuple p2 hA,.none_tuple p2 hA⟩
  | lst es b its2 vs2 p2 hd2 hv2=>exact⟨.none_list p2 hA,.none_list p2 hA,.none_list p2 hA⟩
 | bl c=>cases ky with
  | non=>exact⟨.bool_none _,.bool_none _,.bool_none _⟩
  | bl b=>exact⟨.bool_bool _ _,.bool_bool _ _,.bool_bool _ _⟩
  | int b t=>exact⟨.bool_int _ _ _,.bool_int _ _ _,.bool_int _ _ _⟩
  | str b t=>exact⟨.bool_str _ _ _,.bool_str _ _ _,.bool_str _ _ _⟩
  | tup es b its2 vs2 p2 hd2 hv2=>exact⟨.bool_tuple _ p2 hA,.bool_tuple _ p2 hA,.bool_tuple _ p2 hA⟩
  | lst es b its2 vs2 p2 hd2 hv2=>exact⟨.bool_list _ p2 hA,.bool_list _ p2 hA,.bool_list _ p2 hA⟩
 | int c tc=>cases ky with
  | non=>exact⟨.int_none _ _,.int_none _ _,.int_none _ _⟩
  | bl b=>exact⟨.int_bool _ _ _,.int_bool _ _ _,.int_bool _ _ _⟩
  | int b t=>exact⟨.int_int _ _ _ _,.int_int _ _ _ _,.int_int _ _ _ _⟩
  | str b t=>exact⟨.int_str _ _ _ _,.int_str _ _ _ _,.int_str _ _ _ _⟩
  | tup es b its2 vs2 p2 hd2 hv2=>exact⟨.int_tuple _ _ p2 hA,.int_tuple _ _ p2 hA,.int_tuple _ _ p2 hA⟩
  | lst es b its2 vs2 p2 hd2 hv2=>exact⟨.int_list _ _ p2 hA,.int_list _ _ p2 hA,.int_list _ _ p2 hA⟩
 | str c tc=>cases ky with
  | non=>exact⟨.str_none _ _,.str_none _ _,.str_none _ _⟩
  | bl b=>exact⟨.str_bool _ _ _,.str_bool _ _ _,.str_bool _ _ _⟩
  | int b t=>exact⟨.str_int _ _ _ _,.str_int _ _ _ _,.str_int _ _ _ _⟩
  | str b t=>exact⟨.str_str _ _ _ _,.str_str _ _ _ _,.str_str _ _ _ _⟩
  | tup es b its2 vs2 p2 hd2 hv2=>exact⟨.str_tuple _ _ p2 hA,.str_tuple _ _ p2 hA,.str_tuple _ _ p2 hA⟩
  | lst es b its2 vs2 p2 hd2 hv2=>exact⟨.str_list _ _ p2 hA,.str_list _ _ p2 hA,.str_list _ _ p2 hA⟩
 | tup ds a its vs p hd hv=>cases ky with
  | non=>exact⟨.tuple_none p hA,.tuple_none p hA,.tuple_none p hA⟩
  | bl b=>exact⟨.tuple_bool _ p hA,.tuple_bool _ p hA,.tuple_bool _ p hA⟩
  | int b t=>exact⟨.tuple_int _ _ p hA,.tuple_int _ _ p hA,.tuple_int _ _ p hA⟩
  | str b t=>exact⟨.tuple_str _ _ p hA,.tuple_str _ _ p hA,.tuple_str _ _ p hA⟩
  | tup es b its2 vs2 p2 hd2 hv2=>cases hf
  | lst es b its2 vs2 p2 hd2 hv2=>exact⟨.tuple_list p p2 hA,.tuple_list p p2 hA,.tuple_list p p2 hA⟩
 | lst ds a its vs p hd hv=>cases ky with
  | non=>exact⟨.list_none p hA,.list_none p hA,.list_none p hA⟩
  | bl b=>exact⟨.list_bool _ p hA,.list_bool _ p hA,.list_bool _ p hA⟩
  | int b t=>exact⟨.list_int _ _ p hA,.list_int _ _ p hA,.list_int _ _ p hA⟩
  | str b t=>exact⟨.list_str _ _ p hA,.list_str _ _ p hA,.list_str _ _ p hA⟩
  | tup es b its2 vs2 p2 hd2 hv2=>exact⟨.list_tuple p p2 hA,.list_tuple p p2 hA,.list_tuple p p2 hA⟩
  | lst es b its2 vs2 p2 hd2 hv2=>cases hf
theorem yq {d e:D}(h:¬flt d e=true):(∃ds es,d=.tup ds/\e=.tup es)∨∃ds es,d=.lst ds/\e=.lst es:=by
 cases d with
 | tup ds=>cases e with
  | tup es=>exact .inl ⟨_,_,rfl,rfl⟩
  | _=>exact Qn rfl h
 | lst ds=>cases e with
  | lst es=>exact .inr ⟨_,_,rfl,rfl⟩
  | _=>exact Qn rfl h
 | _=>exact Qn rfl h
theorem AL {x:V}{a:Addr}(h:RelV x (.ref a)):x=.ref a:=by
 cases x<;>first|(cases h;done)|(obtain⟨_,h⟩:=h;cases h;done)|(have z:Value.ref _=Value.ref _:=h;cases z;rfl)
theorem rJ (I:Inv X pins Z H s) (n:Nat):∀(d e:D) (x y:V) (u v:Value) (A:Around),RP X.K H F d x->RP X.K H F e y->RelV x u->RelV y v->(bO n d||bO n e)=true->bF d=true->bF e=true->A.units+n<cLine ->
   SeqAt.EqAt A s u v (aW d e)/\SeqAt.RcAt A s u v (aW d e)/\SeqAt.RcNeAt A s u v (!aW d e):=by
 induction n with
 | zero =>
  intro d e x y u v A hx hy ru rv hs hn hn' hu
  refine yR (iI (ft I hx ru) hn) (iI (ft I hy rv) hn') (by omega) (Decidable.byContradiction λh=>?_)
  rcases yq h with ⟨_,_,rfl,rfl⟩|⟨_,_,rfl,rfl⟩<;>cases hs
 | succ n ih =>
  intro d e x y u v A hx hy ru rv hs hn hn' hu
  have hA:A.units<cLine:=by omega
  by_cases hf:flt d e=true
  ·exact yR (iI (ft I hx ru) hn) (iI (ft I hy rv) hn') hA hf
  have hj:∀{ds es:List D} {vs vs2:List V} {its its2:List Value},RDs X.K H F ds vs->Vals vs its->RDs X.K H F es vs2->Vals vs2 its2->(iH n ds||iH n es)=true->cW ds=true->cW es=true ->
    ∀j (h1:j<its.toArray.size) (h2:j<its2.toArray.size),SeqAt.EqAt A.in1 s its.toArray[j] its2.toArray[j] (aW (ds.getD j .non) (es.getD j .non)):=λhd hv hd2 hv2 hs hn hn' j h1 h2=>by
   obtain⟨v1,q1,q2⟩:=RDs.vals hd hv j h1
   obtain⟨v2,q3,q4⟩:=RDs.vals hd2 hv2 j h2
   refine (ih _ _ v1 v2 _ _ A.in1 (.inl q1) (.inl q3) q2 q4 ?_ (kU j hn) (kU j hn') (by rw [Ba];omega)).1
   rw [dD] at hs ⊢
   exact hs.imp (tP j) (tP j)
  have two:∀{a b:Addr},u=.ref a->v=.ref b->SeqAt.RcAt A s u v (aW d e)->SeqAt.EqAt A s u v (aW d e):=λ{a b} e1 e2 r=>by
   subst e1 e2
   by_cases hab:a=b
   ·subst hab
    rw [AL ru] at hx
    rw [AL rv] at hy
    rw [RP.inj I hn hn' hx hy,An]
    exact SeqAt.EqAt.same _
   ·exact SeqAt.EqAt.of_refs hab r
  rcases yq hf with ⟨ds,es,rfl,rfl⟩|⟨ds,es,rfl,rfl⟩
  ·cases iI (ft I hx ru) hn with
   | tup _ a its vs p hd hv=>cases iI (ft I hy rv) hn' with
    | tup _ b its2 vs2 p2 hd2 hv2 =>
     have e1:((List.range (min its.toArray.size its2.toArray.size)).all (λj=>aW (ds.getD j .non) (es.getD j .non))&&its.toArray.size == its2.toArray.size)=aW (.tup ds) (.tup es):=by
      simp only [aW,pM,aZ,<-hv.length,<-hv2.length,RDs.length hd,RDs.length hd2]
     have r1:=SeqAt.RcAt.tuples p p2 hA (hj hd hv hd2 hv2 hs hn hn')
     have r2:=SeqAt.RcNeAt.tuples p p2 hA (hj hd hv hd2 hv2 hs hn hn')
     rw [e1] at r1 r2
     exact⟨two rfl rfl r1,r1,r2⟩
  ·cases iI (ft I hx ru) hn with
   | lst _ a its vs p hd hv=>cases iI (ft I hy rv) hn' with
    | lst _ b its2 vs2 p2 hd2 hv2 =>
     have l1:=RDs.length hd
     have l2:=RDs.length hd2
     have l3:=hv.length
     have l4:=hv2.length
     have both:SeqAt.RcAt A s (.ref a) (.ref b) (aW (.lst ds) (.lst es))/\SeqAt.RcNeAt A s (.ref a) (.ref b) (!aW (.lst ds) (.lst es)):=by
      by_cases hsz:its.toArray.size=its2.toArray.size
      ·have e1:(List.range its.toArray.size).all (λj=>aW (ds.getD j .non) (es.getD j .non))=aW (.lst ds) (.lst es):=by
        have hl:ds.length=es.length:=by simp only [aZ] at hsz;omega
        have hm:its.toArray.size=min ds.length es.length:=by simp only [aZ];omega
        simp only [aW,pM,hm,hl,beq_self_eq_true,iW]
       have r1:=SeqAt.RcAt.lists p p2 hsz hA (hj hd hv hd2 hv2 hs hn hn')
       have r2:=SeqAt.RcNeAt.lists p p2 hsz hA (hj hd hv hd2 hv2 hs hn hn')
       rw [e1] at r1 r2
       exact⟨r1,r2⟩
      ·have hb:(its.toArray.size != its2.toArray.size)=true:=by simpa using hsz
       have e1:aW (.lst ds) (.lst es)=false:=by
        have hl:(ds.length == es.length)=false:=by
         simp only [aZ] at hsz
         rw [beq_eq_false_iff_ne];omega
        simp only [aW,pM,hl,jS]
       rw [e1]
       exact⟨SeqAt.RcAt.lists_lengths p p2 hb hA,SeqAt.RcNeAt.lists_lengths p p2 hb hA⟩
     exact⟨two rfl rfl both.1,both⟩
end
end Dw
namespace Dw
open PySem PySem.Spec PyProof.Rows L2
noncomputable def lO:Ty->String
 | .int=>"int"|.bool=>"bool"|.tuple=>"tuple"|.list=>"list"|.str=>"str"
noncomputable def qKd:D->String
 | .non=>"NoneType"|.bl _=>"bool"|.int _=>"int"|.str _=>"str"|.tup _=>"tuple"|.lst _=>"list"|.dct _ _=>"NoneType"|.obj _ _=>"NoneType"
theorem qNm (K:Qb) (ty:Ty) (d:D):PySem.W.kitOne K (.type (qKd d)) (.type (lO ty))=some (nV ty d):=by
 cases ty<;>cases d<;>kernel_rfl
section
variable {X:Cx}
theorem qIP:CallR X (.builtin "isinstance") (λxs H Q=>∃(x:V) (d:D) (F:Fz) (ty:Ty) (b:Bool),xs=[x,.ty (lO ty)]/\RP X.K H F d x/\qV ty d=some (false,.bl b)/\Q (.bl b) H):=by
 intro pins s Z H xs us Q I r h
 obtain⟨x,d,F,ty,b,rfl,hx,hb,q⟩:=h
 have hb2:b=nV ty d:=by cases d<;>first|(cases hb;rfl)|cases hb
 subst hb2
 obtain⟨u,w',rfl,ru,rw'⟩:=rL r
 have rw'':w'=Value.type (lO ty):=rw'
 subst rw''
 have fin:∀tk,EP X pins Z Q (.bool (nV ty d)) { s with toks:=tk }:=λtk=>⟨.bl _,H,I.tok tk,rfl,q⟩
 have e:=qNm X.K ty d
 have k:=ft I hx ru
 cases d with
 | dct _ _=>exact Qn hx RP.noDct
 | obj _ _=>cases hb
 | non=>have k:u=.none:=k;subst k;exact jT PySem.W.kitx_none I.kIn True.intro e (λz=>nomatch z) fin
 | bl b=>have k:u=.bool b:=k;subst k;exact jT PySem.W.kitx_bool I.kIn True.intro e (λz=>nomatch z) fin
 | int i=>obtain⟨t,rfl⟩:=k;exact jT PySem.W.kitx_int I.kIn True.intro e (λz=>nomatch z) fin
 | str i=>obtain⟨t,rfl⟩:=k;exact jT PySem.W.kitx_str I.kIn True.intro e (λz=>nomatch z) fin
 | tup ds=>obtain⟨a,its,vs,rfl,⟨o,h1,h2,_⟩,_⟩:=k;exact jT PySem.W.kitx_tuple I.kIn ⟨o,h1,h2⟩ e (λz=>nomatch z) fin
 | lst ds=>obtain⟨a,its,vs,rfl,⟨o,h1,h2,_⟩,_⟩:=k;exact jT PySem.W.kitx_list I.kIn ⟨o,h1,h2⟩ e (λz=>nomatch z) fin
theorem qPl (neg:Bool):OpR X (compareOp (if neg then .IsNot else .Is)) (λx y H Q=>∃(d e:D) (F:Fz) (b:Bool),RP X.K H F d x/\RP X.K H F e y/\kZ neg d e=some (false,.bl b)/\Q (.bl b) H):=by
 intro pins s Z H x y v u Q I rx ry h
 obtain⟨d,e,F,b,hx,hy,hb,q⟩:=h
 have kx:=ft I hx rx
 have ky:=ft I hy ry
 have fin:∀c:Bool,c=b->EP X pins Z Q (.bool c) s:=λc z=>⟨.bl c,H,I,rfl,by rw [z];exact q⟩
 have go:∀(c:Bool),plainIs v u=true->(v == u)=c->(if neg then !c else c)=b->wpAny (model X.prog X.w) X.A (compareOp (if neg then .IsNot else .Is) v u) (EP X pins Z Q) X.xe s:=λc hp hv hc=>by
  subst hv
  cases neg with
  | true=>exact wpAny_isNot_plain hp (fin _ hc)
  | false=>exact wpAny_is_plain hp (fin _ hc)
 have no:∀{x y:Value},x≠y->(x == y)=false:=λh=>beq_eq_false_iff_ne.mpr h
 cases e with
 | non =>
  have ky:u=.none:=ky
  subst ky
  cases d with
  | dct _ _=>exact Qn hx RP.noDct
  | obj kn ds =>
   obtain⟨a,vs,rfl,_⟩:=hx.obj
   cases rx
   exact go false rfl (no (λz=>nomatch z)) (by cases neg<;>simp at hb ⊢<;>exact hb)
  | non=>have kx:v=.none:=kx;subst kx;exact go true rfl (beq_self_eq_true _) (by cases neg<;>simp at hb ⊢<;>exact hb)
  | bl c=>have kx:v=.bool c:=kx;subst kx;exact go false rfl (no (λz=>nomatch z)) (by cases neg<;>simp at hb ⊢<;>exact hb)
  | int c=>obtain⟨t,rfl⟩:=kx;exact go false rfl (no (λz=>nomatch z)) (by cases neg<;>simp at hb ⊢<;>exact hb)
  | str c=>obtain⟨t,rfl⟩:=kx;exact go false rfl (no (λz=>nomatch z)) (by cases neg<;>simp at hb ⊢<;>exact hb)
  | tup ds=>obtain⟨a,its,vs,rfl,_⟩:=kx;exact go false rfl (no (λz=>nomatch z)) (by cases neg<;>simp at hb ⊢<;>exact hb)
  | lst ds=>obtain⟨a,its,vs,rfl,_⟩:=kx;exact go false rfl (no (λz=>nomatch z)) (by cases neg<;>simp at hb ⊢<;>exact hb)
 | bl c2 =>
  have ky:u=.bool c2:=ky
  subst ky
  cases d with
  | dct _ _=>exact Qn hx RP.noDct
  | obj _ _=>cases hb
  | non=>have kx:v=.none:=kx;subst kx;exact go false rfl (no (λz=>nomatch z)) (by cases neg<;>simp at hb ⊢<;>exact hb)
  | bl c =>
   have kx:v=.bool c:=kx
   subst kx
   by_cases hc:c=c2
   ·subst hc
    exact go true rfl (beq_self_eq_true _) (by cases neg<;>simp at hb ⊢<;>exact hb)
   ·exact go false rfl (no (λz=>hc (by injection z))) (by cases neg<;>cases c<;>cases c2<;>simp at hb hc ⊢<;>exact hb)
  | int c=>obtain⟨t,rfl⟩:=kx;exact go false rfl (no (λz=>nomatch z)) (by cases neg<;>simp at hb ⊢<;>exact hb)
  | str c=>obtain⟨t,rfl⟩:=kx;exact go false rfl (no (λz=>nomatch z)) (by cases neg<;>simp at hb ⊢<;>exact hb)
  | tup ds=>obtain⟨a,its,vs,rfl,_⟩:=kx;exact go false rfl (no (λz=>nomatch z)) (by cases neg<;>simp at hb ⊢<;>exact hb)
  | lst ds=>obtain⟨a,its,vs,rfl,_⟩:=kx;exact go false rfl (no (λz=>nomatch z)) (by cases neg<;>simp at hb ⊢<;>exact hb)
 | _=>cases d<;>simp at hb
theorem qPn (hu:X.A.units+20<cLine):OpR X (compareOp .Eq) (λx y H Q=>∃(d e:D) (F:Fz),RP X.K H F d x/\RP X.K H F e y/\(bO 20 d||bO 20 e)=true/\bF d=true/\bF e=true/\Q (.bl (aW d e)) H):=by
 intro pins s Z H x y v u Q I rx ry h
 obtain⟨d,e,F,hx,hy,hs,n1,n2,q⟩:=h
 exact (rJ I 20 d e x y v u X.A hx hy rx ry hs n1 n2 hu).2.1 _ _ _ _ ⟨.bl _,H,I,rfl,q⟩
theorem qPw (I:Inv X pins Z H s) (hx:RP X.K H F (.lst ds) x) (hy:RP X.K H F (.lst []) y) (ru:RelV x u) (rv:RelV y v) (hA:A.units<cLine):SeqAt.RcNeAt A s u v (!ds.isEmpty):=by
 obtain⟨a,its,vs,rfl,p,hd,hv⟩:=ft I hx ru
 obtain⟨b,its2,vs2,rfl,p2,hd2,hv2⟩:=ft I hy rv
 have l1:=RDs.length hd
 have l2:=RDs.length hd2
 have l3:=hv.length
 have l4:=hv2.length
 rw [qK] at l2
 by_cases hsz:its.toArray.size=its2.toArray.size
 ·simp only [aZ] at hsz
  have e:ds=[]:=yaG.mp (by omega)
  have e0:its.length=0:=by omega
  subst e
  have r2:=SeqAt.RcNeAt.lists (e:=λ_=>true) p p2 (by simpa using hsz) hA (λj h1 h2=>Qn h1 (by simp [e0]))
  rw [show its.toArray.size=0 by simpa using e0] at r2
  exact r2
 ·have hb:(its.toArray.size != its2.toArray.size)=true:=by simpa using hsz
  simp only [aZ] at hsz
  have e:ds.isEmpty=false:=by
   cases ds with
   | nil=>rw [qK] at l1;omega
   | cons _ _=>rfl
  rw [e]
  exact SeqAt.RcNeAt.lists_lengths p p2 hb hA
theorem qPk (hu:X.A.units+20<cLine):OpR X (compareOp .NotEq) (λx y H Q=>∃(d e:D) (F:Fz) (b:Bool),RP X.K H F d x/\RP X.K H F e y/\eL .ne d e=some (false,.bl b)/\Q (.bl b) H):=by
 intro pins s Z H x y v u Q I rx ry h
 obtain⟨d,e,F,b,hx,hy,hs,q⟩:=h
 rw [eL] at hs
 split at hs
 ·rename_i hc
  cases hs
  simp only [aL] at hc
  exact (rJ I 20 d e x y v u X.A hx hy rx ry hc.1 hc.2.1 hc.2.2 hu).2.2 _ _ _ _ ⟨.bl _,H,I,rfl,q⟩
 ·unfold oh at hs
  split at hs
  ·cases hs
   exact qPw I hx hy rx ry (by omega) _ _ _ _ ⟨.bl _,H,I,rfl,q⟩
  ·cases hs
theorem RDs.at_ {K:Qb}{H:Hp}{F:Fz}:∀{ds:List D}{vs:List V},RDs K H F ds vs->∀i,i<vs.length->RD K H F (ds.getD i .non) (vs.getD i .non)
 | [],_,h,i,hi=>by cases h;exact Qn hi (Nat.not_lt_zero _)
 | _::_,_,⟨v,r,e,h1,h2⟩,i,hi=>by
  subst e
  cases i with
  | zero=>exact h1
  | succ i=>exact RDs.at_ h2 i (Nat.lt_of_succ_lt_succ hi)
theorem tE (r:Vals vs us) (i:Nat) (hi:i<vs.length):L2.RelV (vs.getD i .non) (us.getD i .none):=by
 obtain⟨u,e1,e2⟩:=r.get (i:=i) (x:=vs[i]) (eJ hi)
 rw [jQ,eJ hi,jQ,e1]
 exact e2
theorem xH {Z:L2.St}{H:Hp}{F:Fz}(I:Inv X pins Z H s) (hu:X.A.units+20<cLine) {d:D}{ds:List D}{x:V}{v:Value}{vs:List V}{us:List Value}(hx:RP X.K H F d x) (rx:L2.RelV x v) (hr:RDs X.K H F ds vs) (rv:Vals vs us) (hs:bO 19 d=true) (n1:bF d=true) (n2:cW ds=true) :
  ∃e:Value->Bool,(∀y,y∈us.toArray->SeqAt.EqAt X.A.in1 s y v (e y))/\us.toArray.any e=cV ds d/\∀i,i<vs.length->e (us.getD i .none)=aW (ds.getD i .non) d:=by
 have hl:vs.length=us.length:=rv.length
 have hd:vs.length=ds.length:=RDs.length hr
 have he:∀i,i<vs.length->SeqAt.EqAt X.A.in1 s (us.getD i .none) v (aW (ds.getD i .non) d):=λi hi =>
  (rJ I 19 _ _ _ _ _ _ X.A.in1 (.inl (RDs.at_ hr i hi)) hx (tE rv i hi) rx (by rw [hs,Bool.or_true]) (kU i n2) n1 (by rw [Ba];omega)).1
 have same:∀i j,i<vs.length->j<vs.length->us.getD i .none=us.getD j .none->ds.getD i .non=ds.getD j .non:=λi j hi hj e=>by
  have a:=tE rv i hi
  rw [e] at a
  have b:=a.inj (tE rv j hj)
  have c:=RDs.at_ hr i hi
  rw [b] at c
  exact RP.inj I (kU i n2) (kU j n2) (.inl c) (.inl (RDs.at_ hr j hj))
 have val:∀i,i<vs.length->@decide (∃j,j<vs.length/\us.getD j .none=us.getD i .none/\aW (ds.getD j .non) d=true) (Classical.propDecidable _)=aW (ds.getD i .non) d:=λi hi'=>by
  cases hq:aW (ds.getD i .non) d with
  | true=>exact @decide_eq_true _ (Classical.propDecidable _) ⟨i,hi',rfl,hq⟩
  | false =>
   refine @decide_eq_false _ (Classical.propDecidable _) ?_
   rintro⟨j,hj,ej,qj⟩
   rw [same j i hj hi' ej,hq] at qj
   cases qj
 refine⟨λy=>@decide (∃i,i<vs.length/\us.getD i .none=y/\aW (ds.getD i .non) d=true) (Classical.propDecidable _),λy hy=>?_,?_,val⟩
 ·obtain⟨i,hi,rfl⟩:=yaX.mp (by simpa using hy:y∈us)
  have hi':i<vs.length:=by omega
  have g:us.getD i .none=us[i]:=by rw [jQ,eJ hi];rfl
  have h:=he i hi'
  rw [g] at h
  have e:=val i hi'
  rw [g] at e
  show SeqAt.EqAt X.A.in1 s us[i] v (@decide (∃j,j<vs.length/\us.getD j .none=us[i]/\aW (ds.getD j .non) d=true) (Classical.propDecidable _))
  rw [e]
  exact h
 ·unfold cV
  rw [List.any_toArray,qL,lx,lx]
  constructor
  ·rintro⟨y,_,hy⟩
   obtain⟨i,hi,_,q⟩:=@of_decide_eq_true _ (Classical.propDecidable _) hy
   rw [jQ,eJ (show i<ds.length by omega)] at q
   exact⟨_,iY (show i<ds.length by omega),q⟩
  ·rintro⟨d',hd',q⟩
   obtain⟨i,hi,rfl⟩:=yaX.mp hd'
   refine⟨us[i],iY (show i<us.length by omega),@decide_eq_true _ (Classical.propDecidable _) ⟨i,by omega,?_,?_⟩⟩
   ·rw [jQ,eJ (show i<us.length by omega)];rfl
   ·rw [jQ,eJ hi];exact q
theorem qPm (n:Bool) (hu:X.A.units+20<cLine):OpR X (compareOp (if n then .NotIn else .In)) (λx y H Q=>∃(d:D) (ds:List D) (F:Fz) (p:Addr) (vs:List V),RP X.K H F d x/\y=.ref p/\(SqL X.K H p vs∨SqT X.K H p vs)/\RDs X.K H F ds vs/\bO 19 d=true/\bF d=true/\cW ds=true/\Q (.bl (if n then !(cV ds d) else cV ds d)) H):=by
 intro pins s Z H x y v u Q I rx ry h
 obtain⟨d,ds,F,p,vs,hx,rfl,hp,hr,hs,n1,n2,q⟩:=h
 cases ry
 rcases hp with hp|hp
 ·obtain⟨its,rv,ht,_⟩:=I.list hp
  obtain⟨e,he,ea,_⟩:=xH I hu hx rx hr rv hs n1 n2
  cases n with
  | false=>exact SeqAt.in_listAt e ht.isList he ⟨.bl _,H,I,by rw [ea];rfl,q⟩
  | true=>exact SeqAt.notIn_listAt e ht.isList he ⟨.bl _,H,I,by rw [ea];rfl,q⟩
 ·obtain⟨its,rv,ht,_⟩:=I.tuple hp
  obtain⟨e,he,ea,_⟩:=xH I hu hx rx hr rv hs n1 n2
  cases n with
  | false=>exact SeqAt.in_tupleAt e ht he ⟨.bl _,H,I,by rw [ea];rfl,q⟩
  | true=>exact SeqAt.notIn_tupleAt e ht he ⟨.bl _,H,I,by rw [ea];rfl,q⟩
end
end Dw
namespace Dw
open PySem PySem.Spec PyProof.Rows L2
def RG (K:Qb) (H:Hp) (F:Fz) (d:D) (v:V):Prop:=RD K H F d v∨∃a ks,d=.dct false ks/\v=.ref a/\¬F a/\H a=some (.dK (dk ks))
def RGs (K:Qb) (H:Hp) (F:Fz):List D->List V->Prop
 | [],vs=>vs=[]
 | d::ds,vs=>∃v r,vs=v::r/\RG K H F d v/\RGs K H F ds r
theorem RG.grow {K:Qb}{H H1:Hp}{F F1:Fz}(g:Gr H F H1 F1) {d:D}{v:V}(h:RG K H F d v):RG K H1 F1 d v:=
 h.elim (λz=>.inl (RD.mono g.keep z)) λ⟨a,ks,e1,e2,e3,e4⟩=>.inr ⟨a,ks,e1,e2,(λz=>(g.new a z).elim e3 λz=>Qn (e4.symm.trans z) (by simp)),g.same _ _ e4⟩
theorem RGs.of {K:Qb}{H:Hp}{F:Fz}:∀{ds:List D}{vs:List V},RDs K H F ds vs->RGs K H F ds vs
 | [],_,h=>h
 | _::_,_,⟨v,r,e,h1,h2⟩=>⟨v,r,e,.inl h1,RGs.of h2⟩
theorem RGs.length {K:Qb}{H:Hp}{F:Fz}:∀{ds:List D}{vs:List V},RGs K H F ds vs->vs.length=ds.length
 | [],_,h=>by rw [show _=[] from h];rfl
 | _::_,_,⟨v,r,e,h1,h2⟩=>by rw [e,fC,fC,RGs.length h2]
theorem RGs.get {K:Qb}{H:Hp}{F:Fz}:∀{ds:List D}{vs:List V}{i:Nat}{d:D},RGs K H F ds vs->ds[i]?=some d->∃v,vs[i]?=some v/\RG K H F d v
 | [],_,_,_,_,e=>by simp at e
 | x::ds,_,i,d,⟨v,r,e1,h1,h2⟩,e=>by
  subst e1
  cases i with
  | zero=>simp at e;subst e;exact⟨v,rfl,h1⟩
  | succ i=>simp at e;obtain⟨w,q1,q2⟩:=RGs.get h2 e;exact⟨w,by simpa using q1,q2⟩
noncomputable def cz (K:Qb) (n:Nat) (f:List D->Option R):Sp:=λvs H Q _=>vs.length=n/\∃(F:Fz) (ds:List D) (r:R),TB H/\(∀a,H a=none->¬F a)/\RGs K H F ds vs/\f ds=some r /\
 ∀v H' F',Gr H F H' F'->RR K H H' F' r v->Q v H'
def del (H:Hp) (a:Addr):Hp:=λb=>if b=a then none else H b
def spH (K:Qb) (n:Nat) (f:List D->Option R):Sp:=λvs H Q _=>vs.length=n/\∃(F:Fz) (a:Addr) (xs ds ys:List D) (ws us:List V) (b:Bool),vs=.ref a::us/\(∀a,H a=none->¬F a)/\H a=some (.lst ws)/\¬F a/\RDs K H F xs ws/\RDs K H F ds us/\f (.lst xs::ds)=some (b,.lst ys) /\
 ∀H' F' zs,Gr (del H a) F H' F'->H' a=some (.lst zs)->¬F' a->RDs K H' F' ys zs->Q .non H'
structure Dfh (call:Nat->List D->Option R) (k:Nat) (X:Cx) (f:Str) (i:Nat):Prop where
 ex:∃(a:Addr) (fd:FuncData) (ps:List Str),X.mg f=some (.ref a)/\PySem.W.keepIn X.K (.ref a)=true/\Binds X.K fd ps []/\FnOk X.prog X.w X.K X.mg X.base dJ k a fd ps (spH X.K ps.length (call (i+HX)))/\∀ds r,call (i+HX) ds=some r->ds.length=ps.length
structure Dfn (G:Gx) (call:Nat->List D->Option R) (k:Nat) (X:Cx) (f:Str) (i:Nat):Prop where
 ex:∃(a:Addr) (fd:FuncData) (ps:List Str),X.mg f=some (.ref a)/\PySem.W.keepIn X.K (.ref a)=true/\Binds X.K fd ps []/\FnOk X.prog X.w X.K X.mg X.base dJ k a fd ps (cz X.K ps.length (call i))/\(∀ds r,call i ds=some r->ds.length=ps.length)/\∀m d,G.dfl.lookup f=some (m,d)->∃t,Binds X.K fd ps [.int d t]
def kV:D->V
 | .int i=>.int i
 | .bl b=>.bl b
 | .str x=>.str x
 | _=>.non
noncomputable def isK:D->Bool
 | .tup _=>false
 | .lst _=>false
 | .dct _ _=>false
 | .obj _ _=>false
 | _=>true
def arV (vs zs:List V):Ar->V
 | .pos i=>vs.getD i .non
 | .kw i=>zs.getD i .non
 | .dft _ d=>kV d
structure Dfu (call:Nat->List D->Option R) (k:Nat) (X:Cx) (u:Uc):Prop where
 ex:∃(a:Addr) (fd:FuncData) (ps:List Str) (g:List Value->List Value->List Value) (gV:List V->List V->List V),X.mg u.f=some (.ref a)/\PySem.W.keepIn X.K (.ref a)=true/\KBinds X.K fd ps u.ks g gV/\(∀vs zs,vs.length=u.np->zs.length=u.ks.length->gV vs zs=u.pl.map (arV vs zs)) /\
  (∀j d,Ar.dft j d∈u.pl->isK d=true)/\FnOk X.prog X.w X.K X.mg X.base dJ k a fd ps (cz X.K ps.length (call u.i))/\∀ds r,call u.i ds=some r->ds.length=ps.length
def iC:List Str->List V->List (Str×V)->List (Str×V)
 | f::ns,v::vs,fs=>iC ns vs (cB f v fs)
 | _,_,fs=>fs
def qW (K:Qb) (ns:List Str):Sp:=λvs H Q _=>∃(x C dx:Addr) (ws:List V),vs=.ref x::ws/\ws.length=ns.length/\H x=some (.ins C dx [])/\Cls K C/\(∀f∈ns,NoAttr K C f)/\Q .non (ay H x (.ins C dx (iC ns ws [])))
structure Mk0 (K:Qb) (C:Addr):Prop where
 makes:PySem.W.makesIn K C=true
 init:PySem.W.findIn K (.ref C) "__init__"=some (some (.builtin "object.__init__"))
 kp:PySem.W.keepIn K (.ref C)=true
def Ini (X:Cx) (C:Addr) (ns:List Str):Prop:=(∃(fi:Addr) (fdi:FuncData) (psi:List Str),Mk X.K C fi/\Binds X.K fdi psi []/\FnOk X.prog X.w X.K X.mg X.base dJ 1 fi fdi psi (qW X.K ns))∨(ns=[]/\Mk0 X.K C)
structure Dfm (call:Nat->List D->Option R) (k:Nat) (X:Cx) (ns:List Str) (c m:Str) (i:Nat) (C:Addr):Prop where
 ex:∃(fm:Addr) (fdm:FuncData) (psm:List Str),X.mg c=some (.ref C)/\Ini X C ns/\Cls X.K C/\(∀f∈ns,NoAttr X.K C f)/\Meth X.K C m fm/\Binds X.K fdm psm [] /\
  FnOk X.prog X.w X.K X.mg X.base dJ k fm fdm psm (cz X.K psm.length (call i))/\(∀ds r,call i ds=some r->ds.length=psm.length)/\m∉ns/\ns.Nodup
noncomputable def bP:List Str:=["len","abs","min","max","sum","all","tuple","list","int","bool","str","isinstance","range","zip","reversed","sorted","enumerate","any"].map Qa
structure Dfl (call:Nat->List D->Option R) (k:Nat) (P:Program) (w:World) (K:Qb) (mg:Str->Option Value) (base:Heap) (i:Nat) (L:LamD):Prop where
 ex:∃x:Str,L.sc.kind=.function/\L.sc.isCoroutine=false/\L.sc.isGenerator=false/\(∀y∈L.sc.names,y.2≠.cell)/\L.sc.names.lookup x=some .local/\(∀y∈aG L.sc,L.sc.names.lookup y=some .free) /\
  (∀clos pm c ctv uv,bindArgs (PySem.W.kla_fn "<lambda>" L.q L.la L.e L.sc clos pm (.ref c) ctv) ⟨[uv],[]⟩=pure [(x,uv)]) /\
  ∀(f c:Addr) (clos:List (Str×Addr)) (A:Around) (outer:List Env) (s:Shared) (H0:Hp),Room k A->∃t:TE,PE (j8 P w K mg base (x::aG L.sc) L.q L.sc f (.ref c) clos A outer s H0) L.e t /\
    ∀(H:Hp) (F:Fz) (d:D) (ds:List D) (v:V) (vs:List V) (r:R) (Q:VK),TB H->(∀a,H a=none->¬F a)->call i (d::ds)=some r->RD K H F d v->RDs K H F ds vs->vs.length=(aG L.sc).length ->
      (∀v' H' F',Gr H F H' F'->RR K H H' F' r v'->Q v' H')->t (some v::vs.map some) H Q
structure DctIn (P:Program) (w:World) (K:Qb) (mg:Str->Option Value) (x:Str) (kvs:List (Str×Str)):Prop where
 ex:∃(a:Addr) (o:Obj) (vs:List (cN×Value)),mg x=some (.ref a)/\K.lookup a=some o/\o.IsDictOf (jy P w) vs/\KV (kvs.map λp=>((.inr p.1:cN),V.str p.2)) vs
structure CnD (P:Program) (w:World) (K:Qb) (mg:Str->Option Value) (G:Gx):Prop where
 c:∀x i,G.cons.lookup x=some i->∃t,mg x=some (.int i t)
 d:∀x kvs,G.dcts.lookup x=some kvs->DctIn P w K mg x kvs
structure XG (call:Nat->List D->Option R) (G:Gx) (k:Nat) (X:Cx) (sc:Scope) (N:List Str):Prop where
 hN:X.N=N
 nd:N.Nodup
 vis:∀x,iA sc x=true->jI X.env.scope x
 loc:∀x,(sc.names.lookup x == some .local||sc.names.lookup x == some .cell)=true->k9 X.env.scope x/\(X.fn x=true∨X.env.scope.names.lookup x=some .local)
 gl:∀x,bf sc x=true->Gl X x
 cap:∀x,ip sc x=true->X.env.kindOf x=some .cell∨X.env.kindOf x=some .free
 calm:X.calm=true
 xe:X.xe=λ_ _=>False
 room:Room k X.A
 defs:∀f i,G.defs.lookup f=some i->Dfn G call k X f i
 blt:∀x,G.defs.lookup x=none->x∈bP->X.mg x=none
 cons:CnD X.prog X.w X.K X.mg G
 meth:∀u∈G.meth,Dfm call k X u.kn.ns u.c u.m u.i u.kn.c
 two:G.meth≠[]->2<=k
 ccl:∀u∈G.meth,u.kn.c<CL
 lam:∀i L,lamX.lookup i=some L->Dfl call k X.prog X.w X.K X.mg X.base i L
section
variable {call:Nat->List D->Option R}{G:Gx}{k:Nat}{X:Cx}{sc:Scope}{N:List Str}
variable (call X) in
def SndE (e:Expr) (c:C):Prop:=∃t:TE,PE X e t/\∀(Ge:Gp) (H:Hp) (F:Fz) (Z:En) (τ:L2.St) (r:R) (Q:VK),aa call Z c=some r->SR X.K Ge H F Z τ->(∀v H' F',Gr H F H' F'->RR X.K H H' F' r v->Q v H')->t τ H Q
variable (call X) in
def d8 (e:Expr) (c:C):Prop:=∃t:TE,PE X e t/\∀(Ge:Gp) (H:Hp) (F:Fz) (Z:En) (τ:L2.St) (d:D) (Q:VK),pk Z c (aa call Z c)=some d->SR X.K Ge H F Z τ->(∀v H' F',Gr H F H' F'->RP X.K H' F' d v->Q v H')->t τ H Q
variable (call X) in
def dO (e:Expr) (c:C):Prop:=∃t:TT,PT X e t/\∀(Ge:Gp) (H:Hp) (F:Fz) (Z:En) (τ:L2.St) (x b:Bool) (Q:Bool->Hp->Prop),aa call Z c=some (x,.bl b)->SR X.K Ge H F Z τ->(∀H' F',Gr H F H' F'->Q b H')->t τ H Q
variable (call X) in
def gj (es:List Expr) (cs:List C):Prop:=∃t:TA,PA X es t/\∀(Ge:Gp) (H:Hp) (F:Fz) (Z:En) (τ:L2.St) (ds:List D) (Q:List V->Hp->Prop),bh call Z cs=some ds->SR X.K Ge H F Z τ->(∀vs H' F',Gr H F H' F'->RDs X.K H' F' ds vs->Q vs H')->t τ H Q
def RPs (K:Qb) (H:Hp) (F:Fz):List D->List V->Prop
 | [],vs=>vs=[]
 | d::ds,vs=>∃v r,vs=v::r/\RP K H F d v/\RPs K H F ds r
variable (call X) in
def gO (es:List Expr) (cs:List C):Prop:=∃t:TA,PA X es t/\∀(Ge:Gp) (H:Hp) (F:Fz) (Z:En) (τ:L2.St) (ds:List D) (Q:List V->Hp->Prop),bu call Z cs=some ds->SR X.K Ge H F Z τ->(∀vs H' F',Gr H F H' F'->RPs X.K H' F' ds vs->Q vs H')->t τ H Q
variable (call X) in
def oP (e:Expr) (c:C):Prop:=∃t:TE,PE X e t/\∀(Ge:Gp) (H:Hp) (F:Fz) (Z:En) (τ:L2.St) (d:D) (Q:VK),ag Z c (aa call Z c)=some d->SR X.K Ge H F Z τ->(∀v H' F',Gr H F H' F'->RG X.K H' F' d v->Q v H')->t τ H Q
variable (call X) in
def lL (es:List Expr) (cs:List C):Prop:=∃t:TA,PA X es t/\∀(Ge:Gp) (H:Hp) (F:Fz) (Z:En) (τ:L2.St) (ds:List D) (Q:List V->Hp->Prop),dU call Z cs=some ds->SR X.K Ge H F Z τ->(∀vs H' F',Gr H F H' F'->RGs X.K H' F' ds vs->Q vs H')->t τ H Q
variable (call X) in
def lH (e:Option Expr) (c:Option C):Prop:=∃t:TO,PO X e t/\∀(Ge:Gp) (H:Hp) (F:Fz) (Z:En) (τ:L2.St) (o:Option Int) (Q:Option Int->Hp->Prop),fK call Z c=some o->SR X.K Ge H F Z τ->(∀H' F',Gr H F H' F'->Q o H')->t τ H Q
theorem SndE.look (h:SndE call X e c) (hc:∀i,c≠.v i):d8 call X e c:=by
 obtain⟨t,p,q⟩:=h
 refine⟨t,p,λGe H F Z τ d Q hd hs k=>?_⟩
 have hd':(aa call Z c).map (·.2)=some d:=by
  cases c with
  | v i=>exact Qn rfl (hc i)
  | _=>exact hd
 cases hr:aa call Z c with
 | none=>rw [hr] at hd';cases hd'
 | some r =>
  rw [hr] at hd'
  cases hd'
  exact q Ge H F Z τ r Q hr hs λv H' F' g z=>k v H' F' g z.look
theorem SndE.lend (h:SndE call X e c) (hc:∀i,c≠.v i):oP call X e c:=by
 obtain⟨t,p,q⟩:=h
 refine⟨t,p,λGe H F Z τ d Q hd hs k=>?_⟩
 have hd':(aa call Z c).map (·.2)=some d:=by
  cases c with
  | v i=>exact Qn rfl (hc i)
  | _=>exact hd
 cases hr:aa call Z c with
 | none=>rw [hr] at hd';cases hd'
 | some r =>
  rw [hr] at hd'
  cases hd'
  refine q Ge H F Z τ r Q hr hs λv H' F' g z=>?_
  obtain⟨F2,g2,rd⟩:=z.fz g
  exact k v H' F2 g2 (.inl rd)
theorem gX (h:bQ N x=some i):N[i]?=some x:=by
 unfold bQ at h
 obtain⟨h1,h2,_⟩:=List.findIdx?_eq_some_iff_getElem.mp h
 rw [eJ h1]
 simpa using h2
theorem jq (g:XG call G k X sc N) (h:ck sc N x=some i):X.N[i]?=some x/\jI X.env.scope x/\(x == ("__debug__":Str))=false/\(x == ("__classdict__":Str))=false:=by
 unfold ck at h
 split at h
 ·rename_i hv
  rw [aL] at hv
  have hp:=hv.2
  unfold eB at hp
  simp only [aL,bne_iff_ne,ne_eq] at hp
  refine⟨by rw [g.hN];exact gX h,g.vis x hv.1,?_,?_⟩
  ·exact beq_eq_false_iff_ne.mpr hp.1.1
  ·exact beq_eq_false_iff_ne.mpr hp.1.2
 ·cases h
theorem AR (g:XG call G k X sc N) (h:ck sc N x=some i):SndE call X (.Name x pos) (.v i)/\d8 call X (.Name x pos) (.v i)/\oP call X (.Name x pos) (.v i):=by
 obtain⟨h1,h2,h3,h4⟩:=jq g h
 refine⟨?_,?_,?_⟩
 ·refine⟨_,gT h1 h2 h3 h4,λGe H F Z τ r Q hr hs k=>?_⟩
  change ji (ar Z i)=some r at hr
  cases hv:ar Z i with
  | none=>rw [hv] at hr;cases hr
  | some z =>
   obtain⟨b,d⟩:=z
   rw [hv] at hr
   cases b with
   | true=>cases hr
   | false =>
    cases hr
    obtain⟨v,e,rd⟩:=hs.val i d hv
    exact⟨v,e,k v H F (Gr.refl hs.dom) rd⟩
 ·refine⟨_,gT h1 h2 h3 h4,λGe H F Z τ d Q hr hs k=>?_⟩
  change (ar Z i).bind de=some d at hr
  cases hv:ar Z i with
  | none=>rw [hv] at hr;cases hr
  | some z =>
   obtain⟨b,d'⟩:=z
   rw [hv] at hr
   cases b with
   | false =>
    cases hr
    obtain⟨v,e,rd⟩:=hs.val i _ hv
    exact⟨v,e,k v H F (Gr.refl hs.dom) (.inl rd)⟩
   | true =>
    cases d' with
    | lst ds' =>
     cases hr
     obtain⟨a,ds,vs,e1,e2,e3,e4,e5,e6⟩:=hs.own i _ hv rfl
     exact⟨.ref a,e2,k _ H F (Gr.refl hs.dom) (.inr ⟨a,ds,vs,e1,rfl,e5,e6⟩)⟩
    | _=>cases hr
 ·refine⟨_,gT h1 h2 h3 h4,λGe H F Z τ d Q hr hs k=>?_⟩
  change (ar Z i).bind hU=some d at hr
  cases hv:ar Z i with
  | none=>rw [hv] at hr;cases hr
  | some z =>
   obtain⟨b,d'⟩:=z
   rw [hv] at hr
   cases b with
   | false =>
    cases hr
    obtain⟨v,e,rd⟩:=hs.val i _ hv
    exact⟨v,e,k v H F (Gr.refl hs.dom) (.inl rd)⟩
   | true =>
    cases d' with
    | dct m ks =>
     cases hr
     obtain⟨a,e1,e2,e3,e4⟩:=hs.dct i m ks hv
     exact⟨.ref a,e1,k _ H F (Gr.refl hs.dom) (.inr ⟨a,ks,rfl,rfl,e2,e3⟩)⟩
    | _=>cases hr
theorem Bg (h:pW c=some d):SndE call X (.Constant c j pos) (.k d):=by
 cases c with
 | int i=>cases h;exact⟨_,qO8,λGe H F Z τ r Q hr hs k=>by cases hr;exact k _ H F (Gr.refl hs.dom) rfl⟩
 | bool i=>cases h;exact⟨_,qRX,λGe H F Z τ r Q hr hs k=>by cases hr;exact k _ H F (Gr.refl hs.dom) rfl⟩
 | str x=>cases h;exact⟨_,qO2,λGe H F Z τ r Q hr hs k=>by cases hr;exact k _ H F (Gr.refl hs.dom) rfl⟩
 | none=>cases h;exact⟨_,qO5,λGe H F Z τ r Q hr hs k=>by cases hr;exact k _ H F (Gr.refl hs.dom) rfl⟩
 | _=>cases h
theorem qOB (g:XG call G k X sc N) (h:jH G sc x=some c):SndE call X (.Name x pos) c/\∀i,c≠.v i:=by
 unfold jH at h
 split at h
 ·rename_i hb
  rw [aL] at hb
  cases hc:G.cons.lookup x with
  | none=>rw [hc] at h;cases h
  | some i =>
   rw [hc] at h
   cases h
   obtain⟨t,ht⟩:=g.cons.c x i hc
   have hd:(x == ("__debug__":Str))=false:=by
    have:=hb.2
    unfold eB at this
    simp only [aL,bne_iff_ne,ne_eq] at this
    simpa using this.1.1
   exact⟨⟨_,zQ (v:=.int i) (g.gl x hb.1) ht ⟨t,rfl⟩ hd,λGe H F Z τ r Q hr hs k=>by cases hr;exact k _ H F (Gr.refl hs.dom) rfl⟩,λi z=>nomatch z⟩
 ·cases h
def dI (X:Cx) (f:Value->Value->Sem Value) (b:D->D->Option R):Prop:=
 ∃r:R2,OpR X f r/\∀(H:Hp) (F:Fz) (d e:D) (x y:V) (z:R) (Q:VK),b d e=some z->(∀a,H a=none->¬F a)->RP X.K H F d x->RP X.K H F e y->(∀v H' F',Gr H F H' F'->RR X.K H H' F' z v->Q v H')->r x y H Q
theorem oF {α β γ:Type}{a:Option α}{b:Option β}{f:α->β->Option γ}{z:γ}(h:(a.bind λx=>b.bind λy=>f x y)=some z):∃x y,a=some x/\b=some y/\f x y=some z:=by
 cases a with
 | none=>cases h
 | some x =>
  cases b with
  | none=>cases h
  | some y=>exact⟨x,y,rfl,rfl,h⟩
theorem ae {α γ:Type}{a:Option α}{f:α->Option γ}{z:γ}(h:a.bind f=some z):∃x,a=some x/\f x=some z:=by
 cases a with
 | none=>cases h
 | some x=>exact⟨x,rfl,h⟩
theorem ko {a b:Expr}{ca cb:C}{ta tb:TE}{Ge:Gp}{H:Hp}{F:Fz}{Z:En}{τ:L2.St}{x y:D}{R':V->V->Hp->Prop}
  (qa:∀(Ge:Gp) (H:Hp) (F:Fz) (Z:En) (τ:L2.St) (d:D) (Q:VK),pk Z ca (aa call Z ca)=some d->SR X.K Ge H F Z τ->(∀v H' F',Gr H F H' F'->RP X.K H' F' d v->Q v H')->ta τ H Q)
  (qb:∀(Ge:Gp) (H:Hp) (F:Fz) (Z:En) (τ:L2.St) (d:D) (Q:VK),pk Z cb (aa call Z cb)=some d->SR X.K Ge H F Z τ->(∀v H' F',Gr H F H' F'->RP X.K H' F' d v->Q v H')->tb τ H Q)
  (ex:pk Z ca (aa call Z ca)=some x) (ey:pk Z cb (aa call Z cb)=some y) (hs:SR X.K Ge H F Z τ)
  (h:∀v w H2 F2,Gr H F H2 F2->RP X.K H2 F2 x v->RP X.K H2 F2 y w->R' v w H2):ta τ H λv H1=>tb τ H1 λw H2=>R' v w H2:=by
 refine qa Ge H F Z τ x _ ex hs λv H1 F1 g1 r1=>?_
 refine qb Ge H1 F1 Z τ y _ ey (hs.grow g1) λw H2 F2 g2 r2=>?_
 exact h v w H2 F2 (g1.trans g2) (r1.grow g2) r2
theorem qMv {a b:Expr}{ca cb:C}{op:Operator}{o:BOp}{pos:Pos}(ho:dI X (binaryOp op) (d9 o)) (ha:d8 call X a ca) (hb:d8 call X b cb):SndE call X (.BinOp a op b pos) (.bin o ca cb):=by
 obtain⟨r,hr,hq⟩:=ho
 obtain⟨ta,pa,qa⟩:=ha
 obtain⟨tb,pb,qb⟩:=hb
 refine⟨_,qRV hr pa pb,λGe H F Z τ z Q hz hs k=>?_⟩
 obtain⟨x,y,ex,ey,ez⟩:=oF (by simpa only [yV] using hz)
 refine ko (a:=a) (b:=b) qa qb ex ey hs λv w H2 F2 g rx ry=>?_
 exact hq H2 F2 x y v w z Q ez g.dom rx ry λu H' F' g' rr=>k u H' F' (g.trans g') (rr.back g.same)
theorem qMu {a b:Expr}{ca cb:C}{op:CmpOp}{o:COp}{pos:Pos}(ho:dI X (compareOp op) (eL o)) (hm:behindInMarks op b=false) (hb2:∀x y z,eL o x y=some z->∃c,z=(false,.bl c)) (ha:d8 call X a ca) (hb:d8 call X b cb) :
  SndE call X (.Compare a [op] [b] pos) (.cmp o ca cb)/\dO call X (.Compare a [op] [b] pos) (.cmp o ca cb):=by
 obtain⟨r,hr,hq⟩:=ho
 obtain⟨ta,pa,qa⟩:=ha
 obtain⟨tb,pb,qb⟩:=hb
 constructor
 ·refine⟨_,zO hr pa pb hm,λGe H F Z τ z Q hz hs k=>?_⟩
  obtain⟨x,y,ex,ey,ez⟩:=oF (by simpa only [sx] using hz)
  refine ko (a:=a) (b:=b) qa qb ex ey hs λv w H2 F2 g rx ry=>?_
  exact hq H2 F2 x y v w z Q ez g.dom rx ry λu H' F' g' rr=>k u H' F' (g.trans g') (rr.back g.same)
 ·refine⟨_,zW hr pa pb hm,λGe H F Z τ xx bb Q hz hs k=>?_⟩
  obtain⟨x,y,ex,ey,ez⟩:=oF (by simpa only [sx] using hz)
  refine ko (a:=a) (b:=b) qa qb ex ey hs λv w H2 F2 g rx ry=>?_
  obtain⟨c,ec⟩:=hb2 _ _ _ ez
  cases ec
  exact hq H2 F2 x y v w _ _ ez g.dom rx ry λu H' F' g' rr=>⟨bb,rr,k H' F' (g.trans g')⟩
theorem iO {K:Qb}{H:Hp}{F:Fz}{ds:List D}{vs:List V}{p:Addr}(dom:∀a,H a=none->¬F a) (hp:H p=none) (h:RDs K H F ds vs) :
  Gr H F (ay H p (.lst vs)) F/\RR K H (ay H p (.lst vs)) F (true,.lst ds) (.ref p):=by
 have g:Gr H F (ay H p (.lst vs)) F:=Gr.laid dom hp
 exact⟨g,p,ds,vs,rfl,rfl,hp,dom p hp,cD,RDs.mono g.keep h⟩
theorem kS {K:Qb}{H:Hp}{F:Fz}{ds:List D}{vs:List V}{p:Addr}(dom:∀a,H a=none->¬F a) (hp:H p=none) (h:RDs K H F ds vs) :
  Gr H F (ay H p (.tup vs)) F/\RR K H (ay H p (.tup vs)) F (false,.tup ds) (.ref p):=by
 have g:Gr H F (ay H p (.tup vs)) F:=Gr.laid dom hp
 exact⟨g,p,vs,rfl,SqT.of cD,RDs.mono g.keep h⟩
theorem iM {Cc:Int->Int->Prop}{gg:Int->Int->V}{kk:Int->Int->D}(h:OpR X f (rI Cc gg))
  (hb:∀d e z,b d e=some z->∃i j,d=.int i/\e=.int j/\Cc i j/\z=(false,kk i j)) (hk:∀(H:Hp) (F:Fz) i j,RD X.K H F (kk i j) (gg i j)):dI X f b:=by
 refine⟨_,h,λH F d e x y z Q hz dom hx hy k=>?_⟩
 obtain⟨i,j,rfl,rfl,hc,rfl⟩:=hb d e z hz
 exact⟨i,j,hx.int,hy.int,hc,k _ H F (Gr.refl dom) (hk H F i j)⟩
theorem mq {gg:Int->Int->V}{kk:Int->Int->D}(h:OpR X f (gH gg))
  (hb:∀d e z,b d e=some z->∃i j,d=.int i/\e=.int j/\z=(false,kk i j)) (hk:∀(H:Hp) (F:Fz) i j,RD X.K H F (kk i j) (gg i j)):dI X f b:=by
 refine⟨_,h,λH F d e x y z Q hz dom hx hy k=>?_⟩
 obtain⟨i,j,rfl,rfl,rfl⟩:=hb d e z hz
 exact⟨i,j,hx.int,hy.int,k _ H F (Gr.refl dom) (hk H F i j)⟩
theorem bX [Decidable c] (h:(if c then some a else none)=some b):c/\a=b:=by
 by_cases hc:c
 ·rw [Ql hc] at h;exact⟨hc,fB h⟩
 ·rw [Qm hc] at h;cases h
theorem qMS:dI X (binaryOp .Sub) (d9 .sub):=mq (kk:=λi j=>.int (i - j)) qPh (λd e z h=>by
 cases d<;>first|(cases h;done)|(cases e<;>first|(cases h;exact⟨_,_,rfl,rfl,rfl⟩)|cases h)) λ_ _ _ _=>rfl
theorem qJT:dI X (binaryOp .FloorDiv) (d9 .fdiv):=iM (kk:=λi j=>.int (i.fdiv j)) qJW (λd e z h=>by
 cases d<;>first|(cases h;done)|(cases e<;>first|(obtain⟨h1,rfl⟩:=bX h;exact⟨_,_,rfl,rfl,h1,rfl⟩)|cases h)) λ_ _ _ _=>rfl
theorem qMX:dI X (binaryOp .Mod) (d9 .mod):=iM (kk:=λi j=>.int (i.fmod j)) qM2 (λd e z h=>by
 cases d<;>first|(cases h;done)|(cases e<;>first|(obtain⟨h1,rfl⟩:=bX h;exact⟨_,_,rfl,rfl,h1,rfl⟩)|cases h)) λ_ _ _ _=>rfl
theorem qMV:dI X (binaryOp .Pow) (d9 .pow):=iM (kk:=λi j=>.int (i^j.toNat)) qM1 (λd e z h=>by
 cases d<;>first|(cases h;done)|(cases e<;>first|(obtain⟨h1,rfl⟩:=bX h;exact⟨_,_,rfl,rfl,h1,rfl⟩)|cases h)) λ_ _ _ _=>rfl
theorem qMU:dI X (binaryOp .LShift) (d9 .shl):=iM (kk:=λi j=>.int (i * 2^j.toNat)) qPj (λd e z h=>by
 cases d<;>first|(cases h;done)|(cases e<;>first|(obtain⟨h1,rfl⟩:=bX h;have h2:=Qp h1;exact⟨_,_,rfl,rfl,⟨h2.1,by omega,h2.2.2⟩,rfl⟩)|cases h)) λ_ _ _ _=>rfl
theorem qMT:dI X (binaryOp .RShift) (d9 .shr):=iM (kk:=λi j=>.int (i / 2^j.toNat)) qPi (λd e z h=>by
 cases d<;>first|(cases h;done)|(cases e<;>first|(obtain⟨h1,rfl⟩:=bX h;exact⟨_,_,rfl,rfl,h1,rfl⟩)|cases h)) λ_ _ _ _=>rfl
theorem zA (h1:0<=x) (h2:0<=y):Builtin.bitAnd x y=((x.toNat &&& y.toNat:Nat):Int):=by
 unfold Builtin.bitAnd;rw [Qk h1,Qk h2]
theorem x8 (h1:0<=x) (h2:0<=y):Builtin.bitOr x y=((x.toNat ||| y.toNat:Nat):Int):=by
 have n:∀z:Int,Builtin.bitNot z=-z - 1:=λz=>by simp only [Builtin.bitNot]<;>omega
 unfold Builtin.bitOr Builtin.bitAnd
 rw [Qj (show ¬0<=Builtin.bitNot x by rw [n];omega),Qj (show ¬0<=Builtin.bitNot y by rw [n];omega)]
 simp only
 rw [n,n,n,n,n,n]
 rw [show -(-x - 1) - 1=x by omega,show -(-y - 1) - 1=y by omega]
 omega
theorem qJY:OpR X (binaryOp .BitAnd) (rI (λi j=>0<=i/\0<=j) λi j=>.int ((i.toNat &&& j.toNat:Nat):Int)):=hO λi j _ _ _ _ _ hc q=>and_int (by rw [zA hc.1 hc.2];exact q)
theorem qM4:OpR X (binaryOp .BitOr) (rI (λi j=>0<=i/\0<=j) λi j=>.int ((i.toNat ||| j.toNat:Nat):Int)):=hO λi j _ _ _ _ _ hc q=>or_int (by rw [x8 hc.1 hc.2];exact q)
theorem qJV:dI X (binaryOp .BitAnd) (d9 .band):=iM (kk:=λi j=>.int ((i.toNat &&& j.toNat:Nat):Int)) qJY (λd e z h=>by
 cases d<;>first|(cases h;done)|(cases e<;>first|(obtain⟨h1,rfl⟩:=bX h;exact⟨_,_,rfl,rfl,h1,rfl⟩)|cases h)) λ_ _ _ _=>rfl
theorem qMY:dI X (binaryOp .BitOr) (d9 .bor):=iM (kk:=λi j=>.int ((i.toNat ||| j.toNat:Nat):Int)) qM4 (λd e z h=>by
 cases d<;>first|(cases h;done)|(cases e<;>first|(obtain⟨h1,rfl⟩:=bX h;exact⟨_,_,rfl,rfl,h1,rfl⟩)|cases h)) λ_ _ _ _=>rfl
theorem qJX:OpR X (binaryOp .BitXor) (rI (λi j=>0<=i/\0<=j) λi j=>.int (((i.toNat ||| j.toNat:Nat):Int) - ((i.toNat &&& j.toNat:Nat):Int))):=hO λi j _ _ _ _ _ hc q=>xor_int (by unfold Builtin.bitXor;rw [x8 hc.1 hc.2,zA hc.1 hc.2];exact q)
theorem qJU:dI X (binaryOp .BitXor) (d9 .bxor):=iM (kk:=λi j=>.int (((i.toNat ||| j.toNat:Nat):Int) - ((i.toNat &&& j.toNat:Nat):Int))) qJX (λd e z h=>by
 cases d<;>first|(cases h;done)|(cases e<;>first|(obtain⟨h1,rfl⟩:=bX h;exact⟨_,_,rfl,rfl,h1,rfl⟩)|cases h)) λ_ _ _ _=>rfl
theorem qMW:dI X (binaryOp .Mult) (d9 .mul):=by
 refine⟨_,op_mulD.or qM0,λH F d e x y z Q hz dom hx hy k=>?_⟩
 cases d with
 | int i =>
  cases e with
  | int j=>obtain⟨h1,rfl⟩:=bX hz;exact .inl ⟨i,j,hx.int,hy.int,h1,k _ H F (Gr.refl dom) rfl⟩
  | _=>cases hz
 | lst xs =>
  cases e with
  | int j =>
   obtain⟨⟨h1,h2,h3⟩,rfl⟩:=bX hz
   obtain⟨a,vs,rfl,hl,hr⟩:=hx.lst
   refine .inr ⟨a,j,vs,rfl,hy.int,hl,by omega,by omega,by rw [RDs.length hr];exact h1,λp hp=>?_⟩
   obtain⟨g,rr⟩:=iO dom hp (RDs.rep hr j.toNat)
   exact k _ _ _ g rr
  | _=>cases hz
 | _=>cases e<;>cases hz
theorem qMZ:dI X (binaryOp .Add) (d9 .add):=by
 refine⟨_,(op_add.or (op_catD.or qM3)).or (op_catN.or qGE),λH F d e x y z Q hz dom hx hy k=>?_⟩
 cases d with
 | int i =>
  cases e with
  | int j=>cases hz;exact .inl (.inl ⟨i,j,hx.int,hy.int,k _ H F (Gr.refl dom) rfl⟩)
  | _=>cases hz
 | str xs =>
  cases e with
  | str ys =>
   obtain⟨h1,rfl⟩:=bX hz
   exact .inr (.inr ⟨xs,ys,hx.str,hy.str,h1,k _ H F (Gr.refl dom) rfl⟩)
  | _=>cases hz
 | lst xs =>
  cases e with
  | lst ys =>
   obtain⟨h1,rfl⟩:=bX hz
   obtain⟨a,vs,rfl,hl,hr⟩:=hx.lst
   obtain⟨a2,vs2,rfl,hl2,hr2⟩:=hy.lst
   refine .inl (.inr (.inl ⟨a,a2,vs,vs2,rfl,rfl,hl,hl2,by rw [RDs.length hr,RDs.length hr2];exact h1,λp hp=>?_⟩))
   obtain⟨g,rr⟩:=iO dom hp (RDs.append hr hr2)
   exact k _ _ _ g rr
  | _=>cases hz
 | tup xs =>
  cases e with
  | tup ys =>
   cases xs with
   | nil =>
    cases hz
    obtain⟨a,vs,rfl,hl,hr⟩:=hx.tup
    obtain⟨a2,vs2,rfl,hl2,hr2⟩:=hy.tup
    have hr:vs=[]:=hr
    subst hr
    exact .inr (.inl ⟨a,a2,vs2,rfl,rfl,hl,hl2,k _ H F (Gr.refl dom) ⟨a2,vs2,rfl,hl2,hr2⟩⟩)
   | cons x0 xs =>
    obtain⟨h1,rfl⟩:=bX hz
    obtain⟨a,vs,rfl,hl,hr⟩:=hx.tup
    obtain⟨a2,vs2,rfl,hl2,hr2⟩:=hy.tup
    have hv:vs≠[]:=λz=>by have:=RDs.length hr;rw [z] at this;cases this
    refine .inl (.inr (.inr ⟨a,a2,vs,vs2,rfl,rfl,hl,hl2,hv,by rw [RDs.length hr,RDs.length hr2];exact h1,λz=>?_,λ_ p hp=>?_⟩))
    ·subst z
     have e0:ys=[]:=by have:=RDs.length hr2;exact yaG.mp this.symm
     subst e0
     rw [iX] at k
     exact k _ H F (Gr.refl dom) ⟨a,vs,rfl,hl,hr⟩
    ·obtain⟨g,rr⟩:=kS dom hp (RDs.append hr hr2)
     exact k _ _ _ g rr
  | _=>cases xs<;>cases hz
 | _=>cases e<;>cases hz
theorem qPg (h:xu op=some o):dI X (binaryOp op) (d9 o):=by
 cases op<;>first|(cases h;first|exact qMZ|exact qMS|exact qMW|exact qJT|exact qMX|exact qMV|exact qMU|exact qMT|exact qJV|exact qMY|exact qJU)|cases h
theorem yN (n:Bool) (hu:X.A.units+20<cLine):dI X (compareOp (if n then .NotIn else .In)) (pY n):=by
 refine⟨_,qPm n hu,λH F d e x y z Q hz dom hx hy k=>?_⟩
 cases e with
 | tup ys =>
  obtain⟨a,vs,rfl,hl,hr⟩:=hy.tup
  obtain⟨h1,rfl⟩:=bX (show (if (bO 19 d&&(bF d&&cW ys))=true then some (false,D.bl (if n then !(cV ys d) else cV ys d)) else none)=some z by cases d<;>exact hz)
  simp only [aL] at h1
  exact⟨d,ys,F,a,vs,hx,rfl,.inr hl,hr,h1.1,h1.2.1,h1.2.2,k _ H F (Gr.refl dom) rfl⟩
 | lst ys =>
  obtain⟨a,vs,rfl,hl,hr⟩:=hy.lst
  obtain⟨h1,rfl⟩:=bX (show (if (bO 19 d&&(bF d&&cW ys))=true then some (false,D.bl (if n then !(cV ys d) else cV ys d)) else none)=some z by cases d<;>exact hz)
  simp only [aL] at h1
  exact⟨d,ys,F,a,vs,hx,rfl,.inl hl,hr,h1.1,h1.2.1,h1.2.2,k _ H F (Gr.refl dom) rfl⟩
 | _=>cases d<;>cases hz
theorem xE (h:eL .ne d e=some z):∃c,z=(false,.bl c):=by
 rw [eL] at h
 split at h
 ·cases h;exact⟨_,rfl⟩
 ·cases e1:oh d e with
  | none=>rw [e1] at h;cases h
  | some c=>rw [e1] at h;cases h;exact⟨_,rfl⟩
theorem qNI {o:COp}(hu:X.A.units+20<cLine) (h:xy op=some o):dI X (compareOp op) (eL o):=by
 cases op with
 | Eq =>
  cases h
  refine⟨_,qPn hu,λH F d e x y z Q hz dom hx hy k=>?_⟩
  obtain⟨h1,rfl⟩:=bX (show (if ((bO 20 d||bO 20 e)&&(bF d&&bF e))=true then some (false,D.bl (aW d e)) else none)=some z from hz)
  simp only [aL] at h1
  exact⟨d,e,F,hx,hy,h1.1,h1.2.1,h1.2.2,k _ H F (Gr.refl dom) rfl⟩
 | NotEq =>
  cases h
  refine⟨_,qPk hu,λH F d e x y z Q hz dom hx hy k=>?_⟩
  obtain⟨c,rfl⟩:=xE hz
  exact⟨d,e,F,c,hx,hy,hz,k _ H F (Gr.refl dom) rfl⟩
 | Lt=>cases h;exact mq (kk:=λi j=>.bl (decide (i<j))) qR0 (λd e z h=>by cases d<;>first|(cases h;done)|(cases e<;>first|(cases h;exact⟨_,_,rfl,rfl,rfl⟩)|cases h)) λ_ _ _ _=>rfl
 | LtE=>cases h;exact mq (kk:=λi j=>.bl (decide (i<=j))) qR1 (λd e z h=>by cases d<;>first|(cases h;done)|(cases e<;>first|(cases h;exact⟨_,_,rfl,rfl,rfl⟩)|cases h)) λ_ _ _ _=>rfl
 | Gt=>cases h;exact mq (kk:=λi j=>.bl (decide (j<i))) qR2 (λd e z h=>by cases d<;>first|(cases h;done)|(cases e<;>first|(cases h;exact⟨_,_,rfl,rfl,rfl⟩)|cases h)) λ_ _ _ _=>rfl
 | GtE=>cases h;exact mq (kk:=λi j=>.bl (decide (j<=i))) qR3 (λd e z h=>by cases d<;>first|(cases h;done)|(cases e<;>first|(cases h;exact⟨_,_,rfl,rfl,rfl⟩)|cases h)) λ_ _ _ _=>rfl
 | In=>cases h;exact yN false hu
 | NotIn=>cases h;exact yN true hu
 | _=>cases h
theorem xI (h:pY n d e=some z):∃c,z=(false,.bl c):=by
 cases e with
 | tup ys=>exact⟨_,(bX (show (if (bO 19 d&&(bF d&&cW ys))=true then some (false,D.bl (if n then !(cV ys d) else cV ys d)) else none)=some z by cases d<;>exact h)).2.symm⟩
 | lst ys=>exact⟨_,(bX (show (if (bO 19 d&&(bF d&&cW ys))=true then some (false,D.bl (if n then !(cV ys d) else cV ys d)) else none)=some z by cases d<;>exact h)).2.symm⟩
 | _=>cases d<;>cases h
theorem qQk (h:eL o d e=some z):∃c,z=(false,.bl c):=by
 cases o with
 | eq=>obtain⟨_,rfl⟩:=bX (show (if ((bO 20 d||bO 20 e)&&(bF d&&bF e))=true then some (false,D.bl (aW d e)) else none)=some z from h);exact⟨_,rfl⟩
 | ne=>exact xE h
 | isin=>exact xI h
 | notin=>exact xI h
 | _=>cases d<;>first|(cases h;done)|(cases e<;>first|(cases h;exact⟨_,rfl⟩)|cases h)
end
end Dw
namespace Dw
open PySem PySem.Spec PyProof.Rows L2
section
variable {call:Nat->List D->Option R}{G:Gx}{k:Nat}{X:Cx}{sc:Scope}{N:List Str}
theorem qPV (neg:Bool):dI X (compareOp (if neg then .IsNot else .Is)) (kZ neg):=by
 refine⟨_,qPl neg,λH F d e x y z Q hz dom hx hy k=>?_⟩
 obtain⟨b,rfl⟩:∃b,z=(false,.bl b):=by
  cases d<;>first|(cases hz;done)|(cases e<;>first|(cases hz;exact⟨_,rfl⟩)|cases hz)
 exact⟨d,e,F,b,hx,hy,hz,k _ H F (Gr.refl dom) rfl⟩
theorem qSg (h:kZ neg d e=some z):∃c,z=(false,.bl c):=by
 cases d<;>first|(cases h;done)|(cases e<;>first|(cases h;exact⟨_,rfl⟩)|cases h)
theorem qOz (neg:Bool) (hop:op=if neg then .IsNot else .Is) (hc:pW c=some d) (ha:d8 call X a ca) :
  SndE call X (.Compare a [op] [.Constant c j pos'] pos) (.isC neg ca d)/\dO call X (.Compare a [op] [.Constant c j pos'] pos) (.isC neg ca d):=by
 subst hop
 obtain⟨r,hr,hq⟩:=qPV (X:=X) neg
 obtain⟨ta,pa,qa⟩:=ha
 obtain⟨tb,pb,qb⟩:=(Bg (call:=call) (X:=X) (j:=j) (pos:=pos') hc).look (λi z=>nomatch z)
 have hm:behindInMarks (if neg then CmpOp.IsNot else CmpOp.Is) (.Constant c j pos')=false:=by cases neg<;>exact qPu _
 constructor
 ·refine⟨_,zO hr pa pb hm,λGe H F Z τ z Q hz hs k=>?_⟩
  obtain⟨x,ex,ez⟩:=ae hz
  refine ko (call:=call) (cb:=.k d) (a:=a) (b:=a) (y:=d) qa qb ex rfl hs λv w H2 F2 g rx ry=>?_
  exact hq H2 F2 x d v w z Q ez g.dom rx ry λu H' F' g' rr=>k u H' F' (g.trans g') (rr.back g.same)
 ·refine⟨_,zW hr pa pb hm,λGe H F Z τ xx bb Q hz hs k=>?_⟩
  obtain⟨x,ex,ez⟩:=ae hz
  refine ko (call:=call) (cb:=.k d) (a:=a) (b:=a) (y:=d) qa qb ex rfl hs λv w H2 F2 g rx ry=>?_
  obtain⟨c,ec⟩:=qSg ez
  cases ec
  exact hq H2 F2 x d v w _ _ ez g.dom rx ry λu H' F' g' rr=>⟨bb,rr,k H' F' (g.trans g')⟩
theorem qMn (ha:d8 call X a ca):SndE call X (.UnaryOp .USub a pos) (.neg ca):=by
 obtain⟨ta,pa,qa⟩:=ha
 refine⟨_,qRT qN9 pa,λGe H F Z τ z Q hz hs k=>?_⟩
 obtain⟨x,ex,ez⟩:=ae hz
 refine qa Ge H F Z τ x _ ex hs λv H1 F1 g rx=>?_
 cases x with
 | int i=>cases ez;exact⟨i,rx.int,k _ H1 F1 g rfl⟩
 | _=>cases ez
theorem SndE.test (h:SndE call X e c) (he:∀whole,isTrue e X.env whole=(do let v <-whole;standAt e.pos;holding [v] (truthy v))):dO call X e c:=by
 obtain⟨t,p,q⟩:=h
 refine⟨_,qOQ p he,λGe H F Z τ x b Q hz hs k=>?_⟩
 refine q Ge H F Z τ (x,.bl b) _ hz hs λv H' F' g rr=>?_
 cases x with
 | false=>exact⟨b,rr,k H' F' g⟩
 | true=>obtain⟨_,_,_,e,_⟩:=rr;cases e
theorem qMl (ha:SndE call X a ca) (ht:dO call X a ca):SndE call X (.UnaryOp .Not a pos) (.not ca)/\dO call X (.UnaryOp .Not a pos) (.not ca):=by
 have inv:∀{Z:En} {z:R},aa call Z (.not ca)=some z->∃x b,aa call Z ca=some (x,.bl b)/\z=(false,.bl (!b)):=λ{Z z} hz=>by
  obtain⟨⟨x,d⟩,e1,e2⟩:=ae hz
  cases d with
  | bl b=>cases e2;exact⟨x,b,e1,rfl⟩
  | _=>cases e2
 constructor
 ·obtain⟨t,p,q⟩:=ha
  refine⟨_,qO4 p,λGe H F Z τ z Q hz hs k=>?_⟩
  obtain⟨x,b,e1,rfl⟩:=inv hz
  refine q Ge H F Z τ _ _ e1 hs λv H' F' g rr=>?_
  cases x with
  | false=>exact⟨b,rr,k _ H' F' g rfl⟩
  | true=>obtain⟨_,_,_,e,_⟩:=rr;cases e
 ·obtain⟨t,p,q⟩:=ht
  refine⟨_,qOR p,λGe H F Z τ x b Q hz hs k=>?_⟩
  obtain⟨x',b',e1,e2⟩:=inv hz
  cases e2
  exact q Ge H F Z τ x' b' _ e1 hs λH' F' g=>k H' F' g
variable (call X) in
def SndW (op:BoolOp) (es:List Expr) (c:C):Prop:=∀pos:Pos,SndE call X (.BoolOp op es pos) c/\∃t:TT,PW X (.BoolOp op es pos) t /\
 ∀(Ge:Gp) (H:Hp) (F:Fz) (Z:En) (τ:L2.St) (x b:Bool) (Q:Bool->Hp->Prop),aa call Z c=some (x,.bl b)->SR X.K Ge H F Z τ->(∀H' F',Gr H F H' F'->Q b H')->t τ H Q
theorem SndW.test (h:SndW call X op es c):dO call X (.BoolOp op es pos) c:=by
 obtain⟨_,t,p,q⟩:=h pos
 exact⟨t,p.pt,q⟩
theorem zB (ha:SndE call X a ca) (ht:dO call X a ca):SndW call X op [a] ca:=λpos=>by
 obtain⟨t,p,q⟩:=ha
 obtain⟨t',p',q'⟩:=ht
 refine⟨⟨t,qO3 p,q⟩,?_⟩
 cases op with
 | And=>exact⟨t',qMJ p',q'⟩
 | Or=>exact⟨t',qOO p',q'⟩
theorem xt {K:Qb}{H H':Hp}{F':Fz}{x b:Bool}{v:V}(h:RR K H H' F' (x,.bl b) v):v=.bl b:=by
 cases x with
 | false=>exact h
 | true=>obtain⟨_,_,_,e,_⟩:=h;cases e
theorem qMx {a b:Expr}{rest:List Expr}{ca cb:C}(ha:SndE call X a ca) (hta:dO call X a ca) (hb:SndW call X .And (b::rest) cb):SndW call X .And (a::b::rest) (.and ca cb):=λpos=>by
 obtain⟨hb1,tb',pb',qb'⟩:=hb pos
 have inv:∀{Z:En} {z:R},aa call Z (.and ca cb)=some z->∃x c,aa call Z ca=some (x,.bl c)/\(if c=true then aa call Z cb=some z else z=(false,.bl false)):=λ{Z z} hz=>by
  obtain⟨⟨x,d⟩,e1,e2⟩:=ae hz
  cases d with
  | bl c=>cases c with
   | true=>exact⟨x,true,e1,e2⟩
   | false=>cases e2;exact⟨x,false,e1,rfl⟩
  | _=>cases e2
 constructor
 ·obtain⟨ta,pa,qa⟩:=ha
  obtain⟨tb,pb,qb⟩:=hb1
  refine⟨_,qPd pa pb,λGe H F Z τ z Q hz hs k=>?_⟩
  obtain⟨x,c,e1,e2⟩:=inv hz
  refine qa Ge H F Z τ _ _ e1 hs λv H' F' g rr=>⟨c,xt rr,?_⟩
  cases c with
  | true=>exact qb Ge H' F' Z τ z Q e2 (hs.grow g) λu H2 F2 g2 r2=>k u H2 F2 (g.trans g2) (r2.back g.same)
  | false=>have e2':z=(false,.bl false):=e2;subst e2';exact k _ H' F' g rfl
 ·obtain⟨ta,pa,qa⟩:=hta
  refine⟨_,qOP pa pb',λGe H F Z τ x b Q hz hs k=>?_⟩
  obtain⟨x',c,e1,e2⟩:=inv hz
  refine qa Ge H F Z τ x' c _ e1 hs λH' F' g=>?_
  cases c with
  | true=>exact qb' Ge H' F' Z τ x b Q e2 (hs.grow g) λH2 F2 g2=>k H2 F2 (g.trans g2)
  | false=>have e2':(x,D.bl b)=(false,.bl false):=e2;cases e2';exact k H' F' g
theorem qOv {a b:Expr}{rest:List Expr}{ca cb:C}(ha:SndE call X a ca) (hta:dO call X a ca) (hb:SndW call X .Or (b::rest) cb):SndW call X .Or (a::b::rest) (.or ca cb):=λpos=>by
 obtain⟨hb1,tb',pb',qb'⟩:=hb pos
 have inv:∀{Z:En} {z:R},aa call Z (.or ca cb)=some z->∃x c,aa call Z ca=some (x,.bl c)/\(if c=true then z=(false,.bl true) else aa call Z cb=some z):=λ{Z z} hz=>by
  obtain⟨⟨x,d⟩,e1,e2⟩:=ae hz
  cases d with
  | bl c=>cases c with
   | false=>exact⟨x,false,e1,e2⟩
   | true=>cases e2;exact⟨x,true,e1,rfl⟩
  | _=>cases e2
 constructor
 ·obtain⟨ta,pa,qa⟩:=ha
  obtain⟨tb,pb,qb⟩:=hb1
  refine⟨_,qRU pa pb,λGe H F Z τ z Q hz hs k=>?_⟩
  obtain⟨x,c,e1,e2⟩:=inv hz
  refine qa Ge H F Z τ _ _ e1 hs λv H' F' g rr=>⟨c,xt rr,?_⟩
  cases c with
  | false=>exact qb Ge H' F' Z τ z Q e2 (hs.grow g) λu H2 F2 g2 r2=>k u H2 F2 (g.trans g2) (r2.back g.same)
  | true=>have e2':z=(false,.bl true):=e2;subst e2';exact k _ H' F' g rfl
 ·obtain⟨ta,pa,qa⟩:=hta
  refine⟨_,qRN pa pb',λGe H F Z τ x b Q hz hs k=>?_⟩
  obtain⟨x',c,e1,e2⟩:=inv hz
  refine qa Ge H F Z τ x' c _ e1 hs λH' F' g=>?_
  cases c with
  | false=>exact qb' Ge H' F' Z τ x b Q e2 (hs.grow g) λH2 F2 g2=>k H2 F2 (g.trans g2)
  | true=>have e2':(x,D.bl b)=(false,.bl true):=e2;cases e2';exact k H' F' g
theorem qMq (ht:dO call X t ct) (ha:SndE call X a ca) (hb:SndE call X b cb):SndE call X (.IfExp t a b pos) (.ifx ct ca cb):=by
 obtain⟨tt,pt,qt⟩:=ht
 obtain⟨ta,pa,qa⟩:=ha
 obtain⟨tb,pb,qb⟩:=hb
 refine⟨_,qJR pt pa pb,λGe H F Z τ z Q hz hs k=>?_⟩
 obtain⟨⟨x,d⟩,e1,e2⟩:=ae hz
 cases d with
 | bl c =>
  refine qt Ge H F Z τ x c _ e1 hs λH' F' g=>?_
  cases c with
  | true=>exact n9 (qa Ge H' F' Z τ z Q e2 (hs.grow g) λu H2 F2 g2 r2=>k u H2 F2 (g.trans g2) (r2.back g.same))
  | false=>exact oE (qb Ge H' F' Z τ z Q e2 (hs.grow g) λu H2 F2 g2 r2=>k u H2 F2 (g.trans g2) (r2.back g.same))
 | _=>cases e2
theorem qOS (ht:PT X t tt) (ha:PT X a ta) (hb:PT X b tb):PT X (.IfExp t a b pos) (fun Z H Q=>tt Z H λc H1=>if c=true then ta Z H1 Q else tb Z H1 Q):=by
 intro pins s Z H Q I h
 rw [PySem.isTrue]
 refine Qc (aB (ht pins s Z H _ I h) λd s1 ⟨H1,I1,q1⟩=>?_)
 cases d with
 | true=>exact ha pins s1 Z H1 Q I1 q1
 | false=>exact hb pins s1 Z H1 Q I1 q1
theorem qJB (ht:dO call X t ct) (ha:dO call X a ca) (hb:dO call X b cb):dO call X (.IfExp t a b pos) (.ifx ct ca cb):=by
 obtain⟨tt,pt,qt⟩:=ht
 obtain⟨ta,pa,qa⟩:=ha
 obtain⟨tb,pb,qb⟩:=hb
 refine⟨_,qOS pt pa pb,λGe H F Z τ x b Q hz hs k=>?_⟩
 obtain⟨⟨x',d⟩,e1,e2⟩:=ae hz
 cases d with
 | bl c =>
  refine qt Ge H F Z τ x' c _ e1 hs λH' F' g=>?_
  cases c with
  | true=>exact n9 (qa Ge H' F' Z τ x b Q e2 (hs.grow g) λH2 F2 g2=>k H2 F2 (g.trans g2))
  | false=>exact oE (qb Ge H' F' Z τ x b Q e2 (hs.grow g) λH2 F2 g2=>k H2 F2 (g.trans g2))
 | _=>cases e2
theorem qPS (n:Nat) (i:Int):Dw.ixN n i=L2.ixN n i:=rfl
theorem z0 {K:Qb}{H:Hp}{F:Fz}{ds:List D}{vs:List V}{i:Int}{d:D}(h:RDs K H F ds vs) (e:iP ds i=some d):∃v,k6 vs i=some v/\RD K H F d v:=by
 obtain⟨j,e1,e2⟩:=ae e
 obtain⟨v,e3,e4⟩:=RDs.get h e2
 refine⟨v,?_,e4⟩
 unfold k6
 rw [RDs.length h,<-qPS,e1]
 exact e3
theorem qOy {a b:Expr}{ca cb:C}{pos:Pos}(hp:lP b) (ha:d8 call X a ca) (hb:d8 call X b cb):SndE call X (.Subscript a b pos) (.ix ca cb):=by
 obtain⟨ta,pa,qa⟩:=ha
 obtain⟨tb,pb,qb⟩:=hb
 refine⟨_,qRW (ix_list.or qPQ) pa pb hp,λGe H F Z τ z Q hz hs k=>?_⟩
 obtain⟨x,y,ex,ey,ez⟩:=oF (by simpa only [yj] using hz)
 refine ko (a:=a) (b:=b) qa qb ex ey hs λv w H2 F2 g rx ry=>?_
 cases x with
 | lst xs =>
  cases y with
  | int i =>
   obtain⟨d,e1,e2⟩:=yac.mp ez
   subst e2
   obtain⟨p,vs,rfl,hl,hr⟩:=rx.lst
   obtain⟨u,e3,e4⟩:=z0 hr e1
   exact .inl ⟨p,vs,i,u,rfl,ry.int,hl,e3,k u H2 F2 g e4⟩
  | _=>cases ez
 | tup xs =>
  cases y with
  | int i =>
   obtain⟨d,e1,e2⟩:=yac.mp ez
   subst e2
   obtain⟨p,vs,rfl,hl,hr⟩:=rx.tup
   obtain⟨u,e3,e4⟩:=z0 hr e1
   exact .inr ⟨p,vs,i,u,rfl,ry.int,hl,e3,k u H2 F2 g e4⟩
  | _=>cases ez
 | _=>cases y<;>cases ez
theorem kQ (n d:Nat) (o:Option Int):Dw.cutAt n d o=HT.sIx n d o:=by
 cases o with
 | none=>rfl
 | some v =>
  have h:=HT.clip_eq v n d
  unfold Dw.cutAt
  by_cases hv:v<0
  ·simp only [hv,if_true] at h ⊢;omega
  ·simp only [hv,if_false] at h ⊢;omega
theorem zr {K:Qb}{H:Hp}{F:Fz}{ds:List D}{vs:List V}(h:RDs K H F ds vs) (l u:Option Int):RDs K H F (iq ds l u) (ir vs l u):=by
 unfold iq ir
 rw [RDs.length h,kQ,kQ]
 exact RDs.take _ (RDs.drop _ h)
theorem qOu {a:Expr}{lo hi:Option Expr}{ca:C}{cl ch:Option C}{p2 pos:Pos}(ha:d8 call X a ca) (hl:lH call X lo cl) (hh:lH call X hi ch):SndE call X (.Subscript a (.Slice lo hi none p2) pos) (.sl ca cl ch):=by
 obtain⟨ta,pa,qa⟩:=ha
 obtain⟨tl,pl,ql⟩:=hl
 obtain⟨th,ph,qh⟩:=hh
 refine⟨_,qJN ((sl_list.or qOD).or qOE) pa pl ph,λGe H F Z τ z Q hz hs k=>?_⟩
 obtain⟨x,ex,hz⟩:=ae hz
 obtain⟨l,el,hz⟩:=ae hz
 obtain⟨u,eu,hz⟩:=ae hz
 refine qa Ge H F Z τ x _ ex hs λv H1 F1 g1 rx=>?_
 refine ql Ge H1 F1 Z τ l _ el (hs.grow g1) λH2 F2 g2=>?_
 refine qh Ge H2 F2 Z τ u _ eu ((hs.grow g1).grow g2) λH3 F3 g3=>?_
 have g:=(g1.trans g2).trans g3
 have rx3:=(rx.grow g2).grow g3
 cases x with
 | lst xs =>
  cases hz
  obtain⟨p,vs,rfl,hl',hr⟩:=rx3.lst
  refine .inl (.inl ⟨p,vs,rfl,hl',λq hq=>?_⟩)
  obtain⟨g4,rr⟩:=iO g.dom hq (zr hr l u)
  exact k _ _ _ (g.trans g4) (rr.back g.same)
 | tup xs =>
  cases hz
  obtain⟨p,vs,rfl,hl',hr⟩:=rx3.tup
  by_cases hw:Dw.cutAt xs.length 0 l=0/\Dw.cutAt xs.length xs.length u=xs.length
  ·refine .inr ⟨p,vs,rfl,hl',?_,?_⟩
   ·rw [RDs.length hr,<-kQ,<-kQ];exact hw
   ·have e:iq xs l u=xs:=by
     unfold iq
     rw [hw.1,hw.2]
     simp
    have e':(false,D.tup (iq xs l u))=(false,D.tup xs):=by rw [e]
    refine k _ H3 F3 g ?_
    rw [e]
    exact⟨p,vs,rfl,hl',hr⟩
  ·refine .inl (.inr ⟨p,vs,rfl,hl',?_,λq hq=>?_⟩)
   ·rw [RDs.length hr,<-kQ,<-kQ];exact hw
   ·obtain⟨g4,rr⟩:=kS g.dom hq (zr hr l u)
    exact k _ _ _ (g.trans g4) (rr.back g.same)
 | _=>cases hz
theorem qHt:lH call X none none:=⟨_,qMN,λGe H F Z τ o Q ho hs k=>by cases ho;exact k H F (Gr.refl hs.dom)⟩
theorem qHs (h:d8 call X e c):lH call X (some e) (some c):=by
 obtain⟨t,p,q⟩:=h
 refine⟨_,qMM p,λGe H F Z τ o Q ho hs k=>?_⟩
 obtain⟨x,ex,ez⟩:=ae ho
 refine q Ge H F Z τ x _ ex hs λv H1 F1 g rx=>?_
 cases x with
 | int i=>cases ez;exact⟨i,rx.int,k H1 F1 g⟩
 | _=>cases ez
theorem AO:gj call X [] []:=⟨_,gS,λGe H F Z τ ds Q h hs k=>by cases h;exact k [] H F (Gr.refl hs.dom) rfl⟩
theorem Bf (hst:starEach (e::es) X.env=(false,eval e X.env)::starEach es X.env) (h:SndE call X e c) (hr:gj call X es cs):gj call X (e::es) (c::cs):=by
 obtain⟨t,p,q⟩:=h
 obtain⟨t',p',q'⟩:=hr
 refine⟨_,fw p p' hst,λGe H F Z τ ds Q hd hs k=>?_⟩
 obtain⟨r,er,hd⟩:=ae hd
 obtain⟨ds',ed,hd⟩:=ae hd
 cases hd
 refine q Ge H F Z τ r _ er hs λv H1 F1 g rr=>?_
 obtain⟨F2,g2,rd⟩:=rr.fz g
 refine q' Ge H1 F2 Z τ ds' _ ed (hs.grow g2) λvs H3 F3 g3 rs=>?_
 exact k (v::vs) H3 F3 (g2.trans g3) ⟨v,vs,rfl,RD.mono g3.keep rd,rs⟩
theorem qHv:lL call X [] []:=⟨_,gS,λGe H F Z τ ds Q h hs k=>by cases h;exact k [] H F (Gr.refl hs.dom) rfl⟩
theorem RGs.grow {K:Qb}{H H1:Hp}{F F1:Fz}(g:Gr H F H1 F1):∀{ds:List D}{vs:List V},RGs K H F ds vs->RGs K H1 F1 ds vs
 | [],_,h=>h
 | _::_,_,⟨v,r,e,h1,h2⟩=>⟨v,r,e,h1.grow g,RGs.grow g h2⟩
theorem qGv (hst:starEach (e::es) X.env=(false,eval e X.env)::starEach es X.env) (h:oP call X e c) (hr:lL call X es cs):lL call X (e::es) (c::cs):=by
 obtain⟨t,p,q⟩:=h
 obtain⟨t',p',q'⟩:=hr
 refine⟨_,fw p p' hst,λGe H F Z τ ds Q hd hs k=>?_⟩
 obtain⟨r,er,hd⟩:=ae hd
 obtain⟨ds',ed,hd⟩:=ae hd
 cases hd
 refine q Ge H F Z τ r _ er hs λv H1 F1 g rr=>?_
 refine q' Ge H1 F1 Z τ ds' _ ed (hs.grow g) λvs H3 F3 g3 rs=>?_
 exact k (v::vs) H3 F3 (g.trans g3) ⟨v,vs,rfl,rr.grow g3,rs⟩
theorem qHx:gO call X [] []:=⟨_,gS,λGe H F Z τ ds Q h hs k=>by cases h;exact k [] H F (Gr.refl hs.dom) rfl⟩
theorem qGw (hst:starEach (e::es) X.env=(false,eval e X.env)::starEach es X.env) (h:d8 call X e c) (hr:gO call X es cs):gO call X (e::es) (c::cs):=by
 obtain⟨t,p,q⟩:=h
 obtain⟨t',p',q'⟩:=hr
 refine⟨_,fw p p' hst,λGe H F Z τ ds Q hd hs k=>?_⟩
 obtain⟨r,er,hd⟩:=ae hd
 obtain⟨ds',ed,hd⟩:=ae hd
 cases hd
 refine q Ge H F Z τ r _ er hs λv H1 F1 g rr=>?_
 refine q' Ge H1 F1 Z τ ds' _ ed (hs.grow g) λvs H3 F3 g3 rs=>?_
 exact k (v::vs) H3 F3 (g.trans g3) ⟨v,vs,rfl,rr.grow g3,rs⟩
theorem qMe (h:gj call X es cs):SndE call X (.Tuple es x1 pos) (.tup cs):=by
 obtain⟨t,p,q⟩:=h
 refine⟨_,qO1 p,λGe H F Z τ z Q hz hs k=>?_⟩
 obtain⟨ds,ed,hz⟩:=ae hz
 obtain⟨h1,rfl⟩:=bX hz
 refine q Ge H F Z τ ds _ ed hs λvs H1 F1 g rs=>⟨by rw [RDs.length rs];exact h1,λp hp=>?_⟩
 obtain⟨g4,rr⟩:=kS g.dom hp rs
 exact k _ _ _ (g.trans g4) (rr.back g.same)
theorem qMo (h:gj call X es cs):SndE call X (.List es pos) (.lst cs):=by
 obtain⟨t,p,q⟩:=h
 refine⟨_,qO6 p,λGe H F Z τ z Q hz hs k=>?_⟩
 obtain⟨ds,ed,hz⟩:=ae hz
 obtain⟨h1,rfl⟩:=bX hz
 refine q Ge H F Z τ ds _ ed hs λvs H1 F1 g rs=>⟨by rw [RDs.length rs];exact h1,λp hp=>?_⟩
 obtain⟨g4,rr⟩:=iO g.dom hp rs
 exact k _ _ _ (g.trans g4) (rr.back g.same)
noncomputable def cK:Expr->Bool
 | .Starred _ _=>false
 | _=>true
theorem bK (h:cK e=true):starEach (e::es) env=(false,eval e env)::starEach es env:=by
 cases e<;>first|rfl|cases h
theorem gY:∀{es:List Expr}{env:Env}{pos:Pos},es.all cK=true->(backTo pos (starEach es env)).any (·.1)=false
 | [],env,pos,_=>rfl
 | e::es,env,pos,h=>by
  rw [eS,aL] at h
  rw [bK h.1]
  have:=gY (env:=env) (pos:=pos) h.2
  simpa [backTo] using this
theorem xN {Z:En}{d:Int}:∀{cs:List C}{ds:List D},dU call Z (cs++[.k (.int d)])=some ds->∃es,dU call Z cs=some es/\ds=es++[.int d]
 | [],ds,h=>⟨[],rfl,by cases h;rfl⟩
 | c::cs,ds,h=>by
  obtain⟨x,e1,h⟩:=ae h
  obtain⟨xs,e2,h⟩:=ae h
  cases h
  obtain⟨es,e3,rfl⟩:=xN e2
  exact⟨x::es,by show (ag Z c (aa call Z c)).bind _=_;rw [e1];show (dU call Z cs).bind _=_;rw [e3];rfl,rfl⟩
theorem RGs.add {K:Qb}{H:Hp}{F:Fz}{d:Int}:∀{ds:List D}{vs:List V},RGs K H F ds vs->RGs K H F (ds++[.int d]) (vs++[.int d])
 | [],_,h=>by cases show _=[] from h;exact⟨_,[],rfl,.inl rfl,rfl⟩
 | _::_,_,⟨v,r,e,h1,h2⟩=>⟨v,r++[.int d],by rw [e];rfl,h1,h2.add⟩
theorem qJE (g:XG call G k X sc N) (hf:G.defs.lookup f=some i) (hg:bf sc f=true) (hd:(f == ("__debug__":Str))=false) (hn:es.all cK=true) (hne:es≠[]) (h:lL call X es cs) :
  SndE call X (.Call (.Name f p) es [] pos) (.call i (cs++mS G f es.length)):=by
 obtain⟨a,fd,ps,hm,hk,hb,hF,hl,hq⟩:=(g.defs f i hf).ex
 obtain⟨t,pt,q⟩:=h
 have hz:mS G f es.length=[]∨∃m d,G.dfl.lookup f=some (m,d)/\mS G f es.length=[.k (.int d)]:=by
  unfold mS
  cases e:G.dfl.lookup f with
  | none=>exact .inl rfl
  | some u =>
   obtain⟨m,d⟩:=u
   by_cases z:es.length=m
   ·exact .inr ⟨m,d,rfl,Ql z⟩
   ·exact .inl (Qm z)
 cases es with
 | nil=>exact Qn rfl hne
 | cons e es =>
  rw [eS,aL] at hn
  rcases hz with hz|⟨m,d,e1,hz⟩
  ·rw [hz,iX]
   refine⟨_,zN hF g.room (g.gl f hg) hm hk hb .nil kj pt hd (bK hn.1) (gY hn.2),λGe H F Z τ z Q hz hs k=>?_⟩
   obtain⟨ds,ed,hz⟩:=ae hz
   refine q Ge H F Z τ ds _ ed hs λvs H1 F1 g1 rs=>?_
   rw [iX]
   exact⟨by rw [RGs.length rs];exact hl ds z hz,F1,ds,z,(hs.grow g1).tbH,g1.dom,rs,hz,λv H' F' g2 rr=>k v H' F' (g1.trans g2) (rr.back g1.same)⟩
  ·rw [hz]
   obtain⟨tk,hb⟩:=hq m d e1
   refine⟨_,zN (dvs:=[.int d]) hF g.room (g.gl f hg) hm hk hb (.cons ⟨tk,rfl⟩ .nil) kj pt hd (bK hn.1) (gY hn.2),λGe H F Z τ z Q hz hs k=>?_⟩
   obtain⟨ds,ed,hz⟩:=ae hz
   obtain⟨ds',ed',rfl⟩:=xN ed
   refine q Ge H F Z τ ds' _ ed' hs λvs H1 F1 g1 rs=>?_
   exact⟨by rw [RGs.length rs.add];exact hl _ z hz,F1,_,z,(hs.grow g1).tbH,g1.dom,rs.add,hz,λv H' F' g2 rr=>k v H' F' (g1.trans g2) (rr.back g1.same)⟩
theorem yU:∀{cs:List C}{ds:List D},bh call Z cs=some ds->ds.length=cs.length
 | [],ds,h=>by cases h;rfl
 | c::cs,ds,h=>by
  obtain⟨r,er,h⟩:=ae h
  obtain⟨ds',ed,h⟩:=ae h
  cases h
  simp [yU ed]
theorem jo {id:String}{b:BI}{es:List Expr}{cs:List C}{p pos:Pos}{r:List V->Hp->VK->Prop}(hc:CallR X (.builtin id) r) (hg:Gl X x) (hm:X.mg x=none) (hv:Qo x=some (.builtin id)) (hnm:x≠"__name__") (hdb:(x == ("__debug__":Str))=false)
  (hn:es.all cK=true) (hne:es≠[]) (h:gO call X es cs)
  (hr:∀(H:Hp) (F:Fz) (ds:List D) (vs:List V) (z:R) (Q:VK),k3 b ds=some z->(∀a,H a=none->¬F a)->RPs X.K H F ds vs->(∀v H' F',Gr H F H' F'->RR X.K H H' F' z v->Q v H')->r vs H Q) :
  SndE call X (.Call (.Name x p) es [] pos) (.bi b cs):=by
 obtain⟨t,pt,q⟩:=h
 cases es with
 | nil=>exact Qn rfl hne
 | cons e es =>
  rw [eS,aL] at hn
  refine⟨_,AF hc hg hm hv pt hnm hdb (bK hn.1) (gY hn.2),λGe H F Z τ z Q hz hs k=>?_⟩
  obtain⟨ds,ed,hz⟩:=ae hz
  refine q Ge H F Z τ ds _ ed hs λvs H1 F1 g1 rs=>?_
  exact hr H1 F1 ds vs z Q hz g1.dom rs λv H' F' g2 rr=>k v H' F' (g1.trans g2) (rr.back g1.same)
theorem tm {id:String}{b:BI}{es:List Expr}{cs:List C}{p pos:Pos}{r:List V->Hp->VK->Prop}(hc:CallR X (.type id) r) (hg:Gl X x) (hm:X.mg x=none) (hv:Qo x=some (.type id)) (hnm:x≠"__name__") (hdb:(x == ("__debug__":Str))=false)
  (hn:es.all cK=true) (hne:es≠[]) (h:gO call X es cs)
  (hr:∀(H:Hp) (F:Fz) (ds:List D) (vs:List V) (z:R) (Q:VK),k3 b ds=some z->(∀a,H a=none->¬F a)->RPs X.K H F ds vs->(∀v H' F',Gr H F H' F'->RR X.K H H' F' z v->Q v H')->r vs H Q) :
  SndE call X (.Call (.Name x p) es [] pos) (.bi b cs):=by
 obtain⟨t,pt,q⟩:=h
 cases es with
 | nil=>exact Qn rfl hne
 | cons e es =>
  rw [eS,aL] at hn
  refine⟨_,qHO hc hg hm hv pt hnm hdb (bK hn.1) (gY hn.2),λGe H F Z τ z Q hz hs k=>?_⟩
  obtain⟨ds,ed,hz⟩:=ae hz
  refine q Ge H F Z τ ds _ ed hs λvs H1 F1 g1 rs=>?_
  exact hr H1 F1 ds vs z Q hz g1.dom rs λv H' F' g2 rr=>k v H' F' (g1.trans g2) (rr.back g1.same)
end
end Dw
namespace Dw
open PySem PySem.Spec PyProof.Rows L2
section
variable {call:Nat->List D->Option R}{G:Gx}{k:Nat}{X:Cx}{sc:Scope}{N:List Str}
theorem TB.off {H:Hp}{cs:List (Addr×Obj)}(h:TB H) (CI:cP H cs):TB (bN H cs):=λt m=>by
 have e:=h t m
 have z:cs.lookup t.1=none:=by
  cases z:cs.lookup t.1 with
  | none=>rfl
  | some o=>have q:=CI _ o z;rw [e] at q;cases q
 rw [cJ z];exact e
theorem AB (x:Str):∀kvs:List (Str×Str),jb (kvs.map λp=>((.inr p.1:cN),V.str p.2)) (.inr x)=(kvs.lookup x).map V.str
 | []=>rfl
 | (a,b)::r=>by
  by_cases h:a=x
  ·subst h
   rw [gd,AA rfl,List.lookup_cons_self]
   rfl
  ·rw [gd,Az (λe=>h (by injection e)),AB x r,gf,show (x == a)=false from beq_eq_false_iff_ne.mpr λe=>h e.symm]
theorem qMf (g:XG call G k X sc N) {a b:Expr}{kvs:List (Str×Str)}{cb:C}{pos:Pos}(hd:oI G sc a=some kvs) (hp:lP b) (hb:SndE call X b cb):SndE call X (.Subscript a b pos) (.tbl kvs cb):=by
 cases a with
 | Name x p =>
  have hd:(if bf sc x&&eB x then G.dcts.lookup x else none)=some kvs:=hd
  split at hd
  ·rename_i hx
   rw [aL] at hx
   have hdb:(x == ("__debug__":Str))=false:=by
    have:=hx.2
    unfold eB at this
    simp only [aL,bne_iff_ne,ne_eq] at this
    simpa using this.1.1
   obtain⟨ad,o,vs,m1,m2,m3,m4⟩:=(g.cons.d x kvs hd).ex
   obtain⟨tb,pb,qb⟩:=hb
   have pn:PE X (.Name x p) (tC (.ref ad)):=zQ (g.gl x hx.1) m1 rfl hdb
   refine⟨fun τ H Q=>tb τ H λv H1=>∃x y,v=.str x/\kvs.lookup x=some y/\Q (.str y) H1,λpins s τ H Q I h=>?_,λGe H F Z τ r Q h1 h2 h3=>?_⟩
   ·refine qL6 PySem.F.slot_dict_getitem.lookup hp (aB (pn pins s τ H (λv H1=>v=.ref ad/\H1=H) I ⟨rfl,rfl⟩) λu s1 ⟨v,H1,I1,ru,ev,eh⟩=>?_)
    subst ev eh
    have ru:u=.ref ad:=ru
    subst ru
    refine aB (pb pins s1 τ _ _ I1 h) λiv s2 ⟨v2,H2,I2,rv,z,y,ez,ey,hq⟩=>?_
    subst ez
    have dd:s2.heap.DictOf (jy X.prog X.w) ad vs:=Heap.dictOf_iff.mpr ⟨o,I2.kIn ad o m2,m3⟩
    obtain⟨w',hw,rw'⟩:=RelO.some_of (v:=.str y) (o:=valueAt vs (.inr z)) (by
     have:=m4.val (.inr z)
     rw [AB,ey] at this
     exact this)
    exact⟨dd.typeIs,wpAny_getItem_of (qSc (k:=.inr z) rv) dd.mapOf hw ⟨.str y,H2,I2.tok _,rw',hq⟩⟩
   ·rw [yX] at h1
    obtain⟨⟨bq,d⟩,e1,e2⟩:=ae h1
    refine qb Ge H F Z τ (bq,d) _ e1 h2 λv H' F' g1 rr=>?_
    cases bq with
    | true=>cases d<;>cases e2
    | false =>
     cases d with
     | str z =>
     obtain⟨y,e3,e4⟩:=yac.mp (show (kvs.lookup z).map (λy=>((false,D.str y):R))=some r from e2)
     subst e4
     exact⟨z,y,rr,e3,h3 _ H' F' g1 rfl⟩
     | _=>cases e2
  ·cases hd
 | _=>cases hd
theorem qOC (g:XG call G k X sc N) {x:Str}{i:Nat}{a:Expr}{ca:C}{p pos:Pos}(hv:ck sc N x=some i) (hn:cK a=true) (h:gj call X [a] [ca]):SndE call X (.Call (.Name x p) [a] [] pos) (.cv i ca):=by
 obtain⟨tn,pn,qn⟩:=(AR (call:=call) (pos:=p) g hv).1
 obtain⟨ta,pa,qa⟩:=h
 refine⟨fun τ H Q=>∃Ge F Z r,aa call Z (.cv i ca)=some r/\SR X.K Ge H F Z τ/\∀v H' F',Gr H F H' F'->RR X.K H H' F' r v->Q v H',λpins s τ H Q I ⟨Ge,F,Z,r,h1,h2,h3⟩=>?_,λGe H F Z τ r Q h1 h2 h3=>⟨Ge,F,Z,r,h1,h2,h3⟩⟩
 rw [yi] at h1
 obtain⟨y,e1,h1⟩:=ae h1
 obtain⟨⟨b,d⟩,e2,h1⟩:=ae h1
 have eA:bh call Z [ca]=some [y.2]:=by rw [kR,e1];rfl
 cases b with
 | true=>cases h1
 | false =>
  cases d with
  | obj kn ds =>
   have h1:(if (decide (CL<=kn.c)&&(aX y.2&&dG ds))=true then call (kn.c - CL) (y.2::ds) else none)=some r:=h1
   split at h1
   ·rename_i hc
    rw [aL,aL,decide_eq_true_eq] at hc
    obtain⟨c1,c2,c3⟩:=hc
    refine wpAny_Call_Name_kw (aB (pn pins s τ H (λv H1=>∃F1,Gr H F H1 F1/\RD X.K H1 F1 (.obj kn ds) v) I (qn Ge H F Z τ (false,.obj kn ds) _ (by rw [xM,e2];rfl) h2 λv H1 F1 g1 rr=>⟨F1,g1,rr⟩)) λu s1 ⟨v,H1,I1,ru,F1,g1,rd⟩=>?_)
    obtain⟨f,vs,rfl,ho,hds⟩:=rd
    have ru:u=.ref f:=ru
    subst ru
    unfold ObjR at ho
    rw [Ql c1] at ho
    have keep:∀{H2:Hp},Same H1 H2->CloR H2 f kn vs:=λs=>ho.mono λa o w e=>s _ _ e
    have fat:∀{s2:Shared} {τ2:L2.St} {pins2:List (Addr×Obj)} {H2:Hp},Inv X pins2 τ2 H2 s2->CloR H2 f kn vs->PySem.W.FnAt f s2.heap:=λJ c=>by
     obtain⟨_,L,clos,pm,ctv,c',uf,oc,uc,fs,t0,cs,_,q2,_⟩:=c
     exact⟨_,_,_,_,(J.hok f _ q2).1⟩
    refine PySem.W.callWith_F (first:=[]) (fat I1 ho) (aB (pa pos pins s1 τ H1 (λws H2=>∃F2,Gr H1 F1 H2 F2/\RDs X.K H2 F2 [y.2] ws) I1 (qa Ge H1 F1 Z τ [y.2] _ eA (h2.grow g1) λws H2 F2 g2 rs=>⟨F2,g2,rs⟩)) λus s2 ⟨ws,H2,I2,rus,F2,g2,rs⟩=>⟨fat I2 (keep g2.same),?_⟩) (bK hn) rfl
    obtain⟨w1,wr,rfl,r1,r2⟩:=rs
    have r2:wr=[]:=r2
    subst r2
    obtain⟨uv,rfl,rw1⟩:=rus.one
    obtain⟨_,L,clos,pm,ctv,c',uf,oc,uc,fs,t0,cs,l1,l2,l3,l4,l5,l6,l7,l8,l9,pV,fX,l12⟩:=keep g2.same
    obtain⟨px,b1,b2,b3,b4,b5,b6,b7,b8⟩:=(g.lam _ L l1).ex
    obtain⟨t,pt,qt⟩:=b8 f c' clos X.A X.stack s2 (bN H2 cs) g.room
    refine qME (N:=px::aG L.sc) (Z:=some w1::vs.map some) I2 g.room.depth g.room.hd l2 l3 l4 l5 l6 l7 l8 b1 b2 b3 b4 (b7 clos pm c' ctv uv) b5 rw1 (by simp [fX]) (λi y v q1 q2=>?_) l9 pV pt (qt (bN H2 cs) (Fc F2 cs) y.2 ds w1 vs r _ (((h2.grow g1).grow g2).tbH.off l7) (qM6 g2.dom) h1 (RD.off l7 c2 r1) (RDs.off l7 c3 (RDs.mono g2.keep hds)) fX λv' H' F' g3 rr non=>?_)
    ·cases i with
     | zero=>simp at q1 q2;exact .inl ⟨q1.symm,q2.symm⟩
     | succ i =>
      simp only [jY] at q1 q2
      rw [gE] at q2
      obtain⟨v2,q3,q4⟩:=yac.mp q2
      cases q4
      obtain⟨b,o,u,e3,e4,e5,e6⟩:=l12 i y v q1 q3
      exact .inr ⟨b6 y (jV q1),b,o,u,e3,e4,e5,e6⟩
    ·exact h3 v' (bT H' cs) _ ((g1.trans g2).trans (qSk g2.dom l7 non g3)) ((qRH g2.dom l7 non g3.dom rr).back (g1.trans g2).same)
   ·cases h1
  | _=>cases h1
end
end Dw
namespace Dw
open PySem PySem.Spec PyProof.Rows L2
section
variable {call:Nat->List D->Option R}{G:Gx}{k:Nat}{X:Cx}{sc:Scope}{N:List Str}
theorem RPs.one {K:Qb}{H:Hp}{F:Fz}{d:D}{vs:List V}(h:RPs K H F [d] vs):∃v,vs=[v]/\RP K H F d v:=by
 obtain⟨v,r,e,h1,h2⟩:=h
 cases h2
 exact⟨v,e,h1⟩
theorem RPs.two {K:Qb}{H:Hp}{F:Fz}{d e:D}{vs:List V}(h:RPs K H F [d,e] vs):∃v w,vs=[v,w]/\RP K H F d v/\RP K H F e w:=by
 obtain⟨v,r,e1,h1,h2⟩:=h
 obtain⟨w,e2,h3⟩:=RPs.one h2
 exact⟨v,w,by rw [e1,e2],h1,h3⟩
theorem RPs.three {K:Qb}{H:Hp}{F:Fz}{d e f:D}{vs:List V}(h:RPs K H F [d,e,f] vs):∃v w u,vs=[v,w,u]/\RP K H F d v/\RP K H F e w/\RP K H F f u:=by
 obtain⟨v,r,e1,h1,h2⟩:=h
 obtain⟨w,u,e2,h3,h4⟩:=RPs.two h2
 exact⟨v,w,u,by rw [e1,e2],h1,h3,h4⟩
variable (X) in
def gB (b:BI) (r:List V->Hp->VK->Prop):Prop:=∀(H:Hp) (F:Fz) (ds:List D) (vs:List V) (z:R) (Q:VK),k3 b ds=some z->(∀a,H a=none->¬F a)->RPs X.K H F ds vs->(∀v H' F',Gr H F H' F'->RR X.K H H' F' z v->Q v H')->r vs H Q
theorem qQD:gB X .len (λxs H Q=>∃p ys,xs=[.ref p]/\(SqL X.K H p ys∨SqT X.K H p ys)/\Q (.int ys.length) H):=by
 intro H F ds vs z Q hz dom hs kk
 match ds,hz,hs with
 | [.tup xs],hz,hs =>
  cases hz
  obtain⟨v,rfl,hv⟩:=RPs.one hs
  obtain⟨p,ws,rfl,h1,h2⟩:=hv.tup
  exact⟨p,ws,rfl,.inr h1,by rw [RDs.length h2];exact kk _ H F (Gr.refl dom) rfl⟩
 | [.lst xs],hz,hs =>
  cases hz
  obtain⟨v,rfl,hv⟩:=RPs.one hs
  obtain⟨p,ws,rfl,h1,h2⟩:=hv.lst
  exact⟨p,ws,rfl,.inl h1,by rw [RDs.length h2];exact kk _ H F (Gr.refl dom) rfl⟩
theorem qQB:gB X .min (λxs H Q=>(∃i j,xs=[.int i,.int j]/\Q (.int (if j<i then j else i)) H)∨∃(p:Addr) (is:List Int) (m:Int),xs=[.ref p]/\SqL X.K H p (is.map V.int)/\pU is=some m/\Q (.int m) H):=by
 intro H F ds vs z Q hz dom hs kk
 match ds,hz,hs with
 | [.int i,.int j],hz,hs =>
  cases hz
  obtain⟨v,w,rfl,hv,hw⟩:=RPs.two hs
  exact .inl ⟨i,j,by rw [hv.int,hw.int],kk _ H F (Gr.refl dom) rfl⟩
 | [.lst xs],hz,hs =>
  have hz:rk xs=some z:=hz
  unfold rk at hz
  split at hz
  ·rename_i is e1
   obtain⟨m,e3,e4⟩:=yac.mp hz
   subst e4
   obtain⟨v,rfl,hv⟩:=RPs.one hs
   obtain⟨p,ws,rfl,h1,h2⟩:=hv.lst
   rw [RDs.ints h2 e1] at h1
   exact .inr ⟨p,is,m,rfl,h1,e3,kk _ H F (Gr.refl dom) rfl⟩
  ·cases hz
theorem qQC:gB X .max (λxs H Q=>((∃i j,xs=[.int i,.int j]/\Q (.int (if j > i then j else i)) H)∨∃i j k,xs=[.int i,.int j,.int k]/\Q (.int (if k > (if j > i then j else i) then k else (if j > i then j else i))) H)∨∃(p:Addr) (is:List Int) (m:Int),xs=[.ref p]/\SqL X.K H p (is.map V.int)/\pT is=some m/\Q (.int m) H):=by
 intro H F ds vs z Q hz dom hs kk
 match ds,hz,hs with
 | [.int i,.int j],hz,hs =>
  cases hz
  obtain⟨v,w,rfl,hv,hw⟩:=RPs.two hs
  exact .inl (.inl ⟨i,j,by rw [hv.int,hw.int],kk _ H F (Gr.refl dom) rfl⟩)
 | [.int i,.int j,.int l],hz,hs =>
  cases hz
  obtain⟨v,w,u,rfl,hv,hw,hu⟩:=RPs.three hs
  exact .inl (.inr ⟨i,j,l,by rw [hv.int,hw.int,hu.int],kk _ H F (Gr.refl dom) rfl⟩)
 | [.lst xs],hz,hs =>
  obtain⟨is,e1,e2⟩:=ae hz
  obtain⟨m,e3,e4⟩:=yac.mp e2
  subst e4
  obtain⟨v,rfl,hv⟩:=RPs.one hs
  obtain⟨p,ws,rfl,h1,h2⟩:=hv.lst
  rw [RDs.ints h2 e1] at h1
  exact .inr ⟨p,is,m,rfl,h1,e3,kk _ H F (Gr.refl dom) rfl⟩
theorem qQA:gB X .sum (λxs H Q=>∃(p:Addr) (is:List Int),xs=[.ref p]/\SqL X.K H p (is.map V.int)/\Q (.int is.sum) H):=by
 intro H F ds vs z Q hz dom hs kk
 match ds,hz,hs with
 | [.lst xs],hz,hs =>
  obtain⟨is,e1,e2⟩:=yac.mp hz
  subst e2
  obtain⟨v,rfl,hv⟩:=RPs.one hs
  obtain⟨p,ws,rfl,h1,h2⟩:=hv.lst
  rw [RDs.ints h2 e1] at h1
  exact⟨p,is,rfl,h1,kk _ H F (Gr.refl dom) rfl⟩
theorem qQG:gB X .all (λxs H Q=>∃(p:Addr) (bs:List Bool),xs=[.ref p]/\SqL X.K H p (bs.map V.bl)/\Q (.bl (bs.all id)) H):=by
 intro H F ds vs z Q hz dom hs kk
 match ds,hz,hs with
 | [.lst xs],hz,hs =>
  obtain⟨is,e1,e2⟩:=yac.mp hz
  subst e2
  obtain⟨v,rfl,hv⟩:=RPs.one hs
  obtain⟨p,ws,rfl,h1,h2⟩:=hv.lst
  rw [RDs.bls h2 e1] at h1
  exact⟨p,is,rfl,h1,kk _ H F (Gr.refl dom) rfl⟩
theorem qQF:gB X .any (λxs H Q=>∃(p:Addr) (bs:List Bool),xs=[.ref p]/\SqL X.K H p (bs.map V.bl)/\Q (.bl (bs.any id)) H):=by
 intro H F ds vs z Q hz dom hs kk
 match ds,hz,hs with
 | [.lst xs],hz,hs =>
  obtain⟨is,e1,e2⟩:=yac.mp hz
  subst e2
  obtain⟨v,rfl,hv⟩:=RPs.one hs
  obtain⟨p,ws,rfl,h1,h2⟩:=hv.lst
  rw [RDs.bls h2 e1] at h1
  exact⟨p,is,rfl,h1,kk _ H F (Gr.refl dom) rfl⟩
theorem qI3:gB X .sorted (λxs H Q=>∃(p:Addr) (is:List Int),xs=[.ref p]/\(SqL X.K H p (is.map V.int)∨SqT X.K H p (is.map V.int))/\is.length<64/\∀l,H l=none->Q (.ref l) (ay H l (.lst ((cI is).map V.int)))):=by
 intro H F ds vs z Q hz dom hs kk
 match ds,hz,hs with
 | [.lst xs],hz,hs =>
  obtain⟨is,e1,e2⟩:=ae hz
  obtain⟨h64,rfl⟩:=bX e2
  obtain⟨v,rfl,hv⟩:=RPs.one hs
  obtain⟨p,ws,rfl,h1,h2⟩:=hv.lst
  rw [RDs.ints h2 e1] at h1
  refine⟨p,is,rfl,.inl h1,h64,λl hl=>?_⟩
  obtain⟨g,rr⟩:=iO dom hl (RDs.of_ints (cI is))
  exact kk _ _ _ g rr
 | [.tup xs],hz,hs =>
  obtain⟨is,e1,e2⟩:=ae hz
  obtain⟨h64,rfl⟩:=bX e2
  obtain⟨v,rfl,hv⟩:=RPs.one hs
  obtain⟨p,ws,rfl,h1,h2⟩:=hv.tup
  rw [RDs.ints h2 e1] at h1
  refine⟨p,is,rfl,.inr h1,h64,λl hl=>?_⟩
  obtain⟨g,rr⟩:=iO dom hl (RDs.of_ints (cI is))
  exact kk _ _ _ g rr
theorem qKz:gB X .tuple (λxs H Q=>∃p ys,xs=[.ref p]/\((SqL X.K H p ys/\∀l,H l=none->Q (.ref l) (ay H l (.tup ys)))∨(SqT X.K H p ys/\Q (.ref p) H))):=by
 intro H F ds vs z Q hz dom hs kk
 match ds,hz,hs with
 | [.lst xs],hz,hs =>
  cases hz
  obtain⟨v,rfl,hv⟩:=RPs.one hs
  obtain⟨p,ws,rfl,h1,h2⟩:=hv.lst
  refine⟨p,ws,rfl,.inl ⟨h1,λl hl=>?_⟩⟩
  obtain⟨g,rr⟩:=kS dom hl h2
  exact kk _ _ _ g rr
 | [.tup xs],hz,hs =>
  cases hz
  obtain⟨v,rfl,hv⟩:=RPs.one hs
  obtain⟨p,ws,rfl,h1,h2⟩:=hv.tup
  exact⟨p,ws,rfl,.inr ⟨h1,kk _ H F (Gr.refl dom) ⟨p,ws,rfl,h1,h2⟩⟩⟩
theorem qNP:gB X .list (λxs H Q=>∃p ys,xs=[.ref p]/\(SqL X.K H p ys∨SqT X.K H p ys)/\∀l,H l=none->Q (.ref l) (ay H l (.lst ys))):=by
 intro H F ds vs z Q hz dom hs kk
 match ds,hz,hs with
 | [.lst xs],hz,hs =>
  cases hz
  obtain⟨v,rfl,hv⟩:=RPs.one hs
  obtain⟨p,ws,rfl,h1,h2⟩:=hv.lst
  refine⟨p,ws,rfl,.inl h1,λl hl=>?_⟩
  obtain⟨g,rr⟩:=iO dom hl h2
  exact kk _ _ _ g rr
 | [.tup xs],hz,hs =>
  cases hz
  obtain⟨v,rfl,hv⟩:=RPs.one hs
  obtain⟨p,ws,rfl,h1,h2⟩:=hv.tup
  refine⟨p,ws,rfl,.inr h1,λl hl=>?_⟩
  obtain⟨g,rr⟩:=iO dom hl h2
  exact kk _ _ _ g rr
theorem qQE:gB X .int (λxs H Q=>(∃i,xs=[.int i]/\Q (.int i) H)∨∃k,xs=[.bl k]/\Q (.int (if k then 1 else 0)) H):=by
 intro H F ds vs z Q hz dom hs kk
 match ds,hz,hs with
 | [.bl b],hz,hs =>
  cases hz
  obtain⟨v,rfl,hv⟩:=RPs.one hs
  exact .inr ⟨b,by rw [hv.bl],kk _ H F (Gr.refl dom) rfl⟩
 | [.int i],hz,hs =>
  cases hz
  obtain⟨v,rfl,hv⟩:=RPs.one hs
  exact .inl ⟨i,by rw [hv.int],kk _ H F (Gr.refl dom) rfl⟩
theorem qQt:Qo (Qa "len")=some (.builtin "len"):=by decide +kernel
theorem qQr:Qo (Qa "min")=some (.builtin "min"):=by decide +kernel
theorem qQs:Qo (Qa "max")=some (.builtin "max"):=by decide +kernel
theorem qQp:Qo (Qa "sum")=some (.builtin "sum"):=by decide +kernel
theorem qQw:Qo (Qa "all")=some (.builtin "all"):=by decide +kernel
theorem qQv:Qo (Qa "any")=some (.builtin "any"):=by decide +kernel
theorem qIY:Qo (Qa "sorted")=some (.builtin "sorted"):=by decide +kernel
theorem qQu:Qo (Qa "isinstance")=some (.builtin "isinstance"):=by decide +kernel
theorem Ac:Qo (Qa "tuple")=some (.type "tuple"):=by decide +kernel
theorem zg:Qo (Qa "list")=some (.type "list"):=by decide +kernel
theorem x9:Qo (Qa "int")=some (.type "int"):=by decide +kernel
theorem qNO:Qo (Qa "bool")=some (.type "bool"):=by decide +kernel
theorem qQq:Qo (Qa "str")=some (.type "str"):=by decide +kernel
theorem pN (h:eB x=true):x≠"__name__"/\(x == ("__debug__":Str))=false:=by
 unfold eB at h
 simp only [aL,bne_iff_ne,ne_eq] at h
 exact⟨h.2,beq_eq_false_iff_ne.mpr h.1.1⟩
theorem gQ (h:x=Qa s) (hs:s∈["len","abs","min","max","sum","all","tuple","list","int","bool","str","isinstance","range","zip","reversed","sorted","enumerate","any"]):x∈bP:=by
 subst h
 exact yaI.mpr ⟨s,hs,rfl⟩
theorem qHw (g:XG call G k X sc N) (hb:rn x es.length=some b) (hd:G.defs.lookup x=none) (hg:bf sc x=true) (hp:eB x=true) (hn:es.all cK=true) (h:gO call X es cs) :
  SndE call X (.Call (.Name x p) es [] pos) (.bi b cs):=by
 obtain⟨h1,h2⟩:=pN hp
 have gx:=g.gl x hg
 have bl:∀s:String,x=Qa s->s∈["len","abs","min","max","sum","all","tuple","list","int","bool","str","isinstance","range","zip","reversed","sorted","enumerate","any"]->X.mg x=none:=λs e hs=>g.blt x hd (gQ e hs)
 have ne:∀{n:Nat},es.length=n+1->es≠[]:=λe z=>by rw [z] at e;cases e
 unfold rn at hb
 split at hb
 ·rename_i e
  split at hb
  ·rename_i hl
   cases hb
   exact jo qEI gx (bl _ e (by decide)) (by rw [e];exact qQt) h1 h2 hn (ne hl) h qQD
  ·cases hb
 split at hb
 ·rename_i e
  split at hb
  ·rename_i hl
   cases hb
   exact jo ((qIK g.calm).or (qIL g.calm)) gx (bl _ e (by decide)) (by rw [e];exact qQr) h1 h2 hn (hl.elim (λz=>ne z) (λz=>ne z)) h qQB
  ·cases hb
 split at hb
 ·rename_i e
  split at hb
  ·rename_i hl
   cases hb
   exact jo (((qIN g.calm).or (qIM g.calm)).or (qIO g.calm)) gx (bl _ e (by decide)) (by rw [e];exact qQs) h1 h2 hn (hl.elim (λz=>ne z) (λz=>z.elim (λz=>ne z) (λz=>ne z))) h qQC
  ·cases hb
 split at hb
 ·rename_i e
  split at hb
  ·rename_i hl
   cases hb
   exact jo (qIJ g.calm) gx (bl _ e (by decide)) (by rw [e];exact qQp) h1 h2 hn (ne hl) h qQA
  ·cases hb
 split at hb
 ·rename_i e
  split at hb
  ·rename_i hl
   cases hb
   exact jo (qIS g.calm) gx (bl _ e (by decide)) (by rw [e];exact qQw) h1 h2 hn (ne hl) h qQG
  ·cases hb
 split at hb
 ·rename_i e
  split at hb
  ·rename_i hl
   cases hb
   exact tm qD4 gx (bl _ e (by decide)) (by rw [e];exact Ac) h1 h2 hn (ne hl) h qKz
  ·cases hb
 split at hb
 ·rename_i e
  split at hb
  ·rename_i hl
   cases hb
   exact tm qEH gx (bl _ e (by decide)) (by rw [e];exact zg) h1 h2 hn (ne hl) h qNP
  ·cases hb
 split at hb
 ·rename_i e
  split at hb
  ·rename_i hl
   cases hb
   exact tm qIQ gx (bl _ e (by decide)) (by rw [e];exact x9) h1 h2 hn (ne hl) h qQE
  ·cases hb
 unfold xD at hb
 split at hb
 ·rename_i e
  split at hb
  ·rename_i hl
   cases hb
   exact jo (qIR g.calm) gx (bl _ e (by decide)) (by rw [e];exact qQv) h1 h2 hn (ne hl) h qQF
  ·cases hb
 split at hb
 ·rename_i e
  split at hb
  ·rename_i hl
   cases hb
   exact jo qEG gx (bl _ e (by decide)) (by rw [e];exact qIY) h1 h2 hn (ne hl) h qI3
  ·cases hb
 ·cases hb
theorem qLL (h:oy t=some ty):Qo t=some (.type (lO ty))/\t∈bP/\eB t=true:=by
 unfold oy at h
 split at h
 ·rename_i e;subst e;cases h;exact⟨x9,gQ rfl (by decide),by decide +kernel⟩
 split at h
 ·rename_i e;subst e;cases h;exact⟨qNO,gQ rfl (by decide),by decide +kernel⟩
 split at h
 ·rename_i e;subst e;cases h;exact⟨Ac,gQ rfl (by decide),by decide +kernel⟩
 split at h
 ·rename_i e;subst e;cases h;exact⟨zg,gQ rfl (by decide),by decide +kernel⟩
 split at h
 ·rename_i e;subst e;cases h;exact⟨qQq,gQ rfl (by decide),by decide +kernel⟩
 ·cases h
theorem qMp (g:XG call G k X sc N) (hf:f=Qa "isinstance") (hd:G.defs.lookup f=none) (hdt:G.defs.lookup t=none) (hg:bf sc f=true) (hgt:bf sc t=true) (ht:oy t=some ty) (hn:cK a=true) (h:d8 call X a ca) :
  SndE call X (.Call (.Name f p) [a,.Name t p2] [] pos) (.isi ca ty):=by
 obtain⟨b1,b2,b3⟩:=qLL ht
 obtain⟨n1,n2⟩:=pN b3
 have hm:X.mg f=none:=g.blt f hd (gQ hf (by decide))
 obtain⟨ta,pa,qa⟩:=h
 have pt:PE X (.Name t p2) (tC (.ty (lO ty))):=qMR (g.gl t hgt) (g.blt t hdt b2) b1 rfl n1 n2
 refine⟨_,AF qIP (g.gl f hg) hm (by rw [hf];exact qQu) (fw pa (fw pt gS) (bK hn)) (by rw [hf];decide +kernel) (by rw [hf];decide +kernel) (bK hn) (by rfl),λGe H F Z τ z Q hz hs kk=>?_⟩
 obtain⟨x,ex,ez⟩:=ae hz
 have ez0:qV ty x=some z:=ez
 obtain⟨b,rfl⟩:∃b,z=(false,.bl b):=by cases x<;>first|(cases ez;exact⟨_,rfl⟩)|cases ez
 refine qa Ge H F Z τ x _ ex hs λv H1 F1 g1 rx=>?_
 exact⟨v,x,F1,ty,b,rfl,rx,ez0,kk _ H1 F1 g1 rfl⟩
end
end Dw
namespace Dw
open PySem PySem.Spec PyProof.Rows L2
theorem tO:∀(ns:List Str) (ws:List V) (fs:List (Str×V)) (g:Str),g∉ns->(iC ns ws fs).lookup g=fs.lookup g
 | [],_,_,_,_=>rfl
 | f::ns,[],_,_,_=>rfl
 | f::ns,w::ws,fs,g,h=>by
  show (iC ns ws (cB f w fs)).lookup g=_
  rw [tO ns ws _ g (λz=>h (dq _ z)),pQ,Qm (λz=>h (by rw [z];exact dF))]
theorem zX:∀(ns:List Str) (ws:List V) (fs:List (Str×V)) (j:Nat) (f:Str),ns.Nodup->ws.length=ns.length->ns[j]?=some f->∃u,(iC ns ws fs).lookup f=some u/\ws[j]?=some u
 | [],_,_,j,f,_,_,h=>by simp at h
 | g::ns,[],_,j,f,_,hl,_=>by simp at hl
 | g::ns,w::ws,fs,j,f,nd,hl,h=>by
  rw [yaU] at nd
  cases j with
  | zero =>
   have h:g=f:=by simpa using h
   subst h
   refine⟨w,?_,rfl⟩
   show (iC ns ws (cB g w fs)).lookup g=_
   rw [tO ns ws _ g nd.1,pQ,Ql rfl]
  | succ j =>
   obtain⟨u,h1,h2⟩:=zX ns ws (cB g w fs) j f nd.2 (by simpa using hl) (by simpa using h)
   exact⟨u,h1,by simpa using h2⟩
theorem AK (f:Str) (v:V):∀fs:List (Str×V),(cB f v fs).length<=fs.length+1
 | []=>by simp [cB]
 | (g,x)::r=>by
  unfold cB
  split
  ·simp
  ·have:=AK f v r;simp;omega
section
variable {call:Nat->List D->Option R}{G:Gx}{k:Nat}{X:Cx}{sc:Scope}{N:List Str}
theorem sf (h:jl e=true) (m:Str) (env:Env):attributeBase e m env (eval e env)=eval e env:=by
 cases e<;>first|rfl|cases h
theorem qMr (hb:jl a=true) (h:SndE call X a ca):SndE call X (.Attribute a f pos) (.fld ca j f):=by
 obtain⟨t,pt,qt⟩:=h
 refine⟨_,qO9 pt (sf hb _ _),λGe H F Z τ r Q hr hs kk=>?_⟩
 rw [yW] at hr
 obtain⟨⟨b,d⟩,ey,hr⟩:=ae hr
 cases d with
 | obj ns ds =>
  have hr:(if ns.ns[j]?=some f then (ds[j]?).map (false,·) else none)=some r:=hr
  by_cases hf:ns.ns[j]?=some f
  ·rw [Ql hf] at hr
   cases ed:ds[j]? with
   | none=>rw [ed] at hr;cases hr
   | some d =>
    rw [ed] at hr
    cases hr
    refine qt Ge H F Z τ _ _ ey hs λv H1 F1 g1 rr=>?_
    obtain⟨a,vs,rfl,oi,o6⟩:=rr.look.obj
    obtain⟨dx,fs,o2,o3,o4,o5⟩:=oi.fld hf
    obtain⟨n1,u,q1,q2⟩:=o4 j f hf
    obtain⟨v',w1,w2⟩:=RDs.get o6 ed
    rw [q2] at w1
    cases w1
    exact⟨a,ns.c,dx,fs,u,rfl,o2,o3,n1,q1,kk u H1 F1 g1 w2⟩
  ·rw [Qm hf] at hr
   cases hr
 | _=>cases hr
theorem qJv:∀{es:List Expr}{env:Env}{pos:Pos},es.all cK=true->(backTo pos (starEach es env)).all (λx=>!x.1)=true:=λ{es env pos} h=>by
 have:=gY (env:=env) (pos:=pos) h
 rw [<-List.not_any_eq_all_not,this]
 rfl
theorem zK (hb:attributeBase o m env (eval o env)=eval o env) (few:methodCallForm (args.length+([]:List Keyword).length) (backTo pos2 (starEach args env)) (backToKw pos2 (keywordEach [] env))=true) (hln:(p2.endLine == pos2.line)=true) :
  eval (.Call (.Attribute o m p2) args [] pos2) env=(do
   let ov <-eval o env
   standAt p2.atName
   let (f,first) <-holding [ov] (getMethod ov m (do return (<-importBound o env).getD true))
   callWith pos2 f first (backTo pos2 (starEach args env)) (backToKw pos2 (keywordEach [] env))):=by
 have e1:eval (.Call (.Attribute o m p2) args [] pos2) env=(do
   let ov <-attributeBase o m env (eval o env)
   standAt p2.atName
   methodCall o m p2 pos2 env ov (args.length+([]:List Keyword).length) (backTo pos2 (starEach args env)) (backToKw pos2 (keywordEach [] env))):=rfl
 rw [e1,hb]
 unfold methodCall calleeOf methodCallPos
 rw [few,hln]
 rfl
theorem qJP {C:Addr}{p pos:Pos}(M:Mk0 X.K C) (hg:Gl X x) (hm:X.mg x=some (.ref C)) (hdb:(x == ("__debug__":Str))=false) :
  PE X (.Call (.Name x p) [] [] pos) (λ_ H Q=>∀a dx,H a=none->H dx=none->dx≠a->Q (.ref a) (ay (ay H dx (.own a)) a (.ins C dx []))):=by
 intro pins s Z H Q I h
 refine wpAny_Call_Name_kw (kL I hg hm ?_ hdb)
 refine qv I.kIn M.kp ?_
 have hq:=h (s.heap.objs.size+1) s.heap.objs.size (I.hok.fresh (Nat.le_succ _)) (I.hok.fresh (aK _)) (bR (qO _))
 have I2:=Inv.made (C:=C) I
 have Y:=qP (M:=model X.prog X.w) I.kIn M.makes
 refine wpAny_call (qHW I.kIn M.makes M.init (λself=>PySem.W.Looks.of_pure (PySem.W.oi_bind self)) ?_)
 obtain⟨hh,gg,dd,tt,oo⟩:=s
 have e2:((hh.push PySem.W.emptyDict).push (PySem.W.instObj C hh.objs.size)).get? (hh.objs.size+1)=some (PySem.W.instObj C hh.objs.size):=by
  have:=Qh (hh.push PySem.W.emptyDict) (o:=PySem.W.instObj C hh.objs.size) rfl
  rwa [Heap.size_push] at this
 have t1:PySem.W.Looks (model X.prog X.w) ((hh.push PySem.W.emptyDict).push (PySem.W.instObj C hh.objs.size)) (typeOf (.ref (hh.objs.size+1))) (.ref C):=(PySem.W.Looks.ld e2).andThen .now
 have t2:PySem.W.Looks (model X.prog X.w) ((hh.push PySem.W.emptyDict).push (PySem.W.instObj C hh.objs.size)) (isInstance (.ref (hh.objs.size+1)) (.type "object")) true:=t1.andThen (Y.top.keeps λb o e=>Qg _ (Qg _ e))
 refine PySem.codeAny_call_builtin PySem.W.oi_plain PySem.W.entry_oi (@PySem.W.check_slot (model X.prog X.w) _ _ _ "object.__init__" "object" "__init__" (.ref (hh.objs.size+1)) [] [] _ PySem.W.oi_kind PySem.W.oi_split t2 (PySem.W.oi_args (.ref (hh.objs.size+1))) ?_)
 rw [PySem.W.oi_run]
 exact Qd (And.intro rfl ⟨V.ref (hh.objs.size+1),_,I2,rfl,hq⟩)
theorem qR9 (g:XG call G k X sc N) (hu:u∈G.meth) (hg:bf sc u.c=true) (hd:(u.c == ("__debug__":Str))=false) {cs:List C}{p pos:Pos}(hn:es.all cK=true) (h:gj call X es cs) (hlen:cs.length=es.length) :
  ∃t:TE,PE X (.Call (.Name u.c p) es [] pos) t/\∀(Ge:Gp) (H:Hp) (F:Fz) (Z:En) (τ:L2.St) (xs:List D) (Q:VK),bh call Z cs=some xs->xs.length=u.kn.ns.length->SR X.K Ge H F Z τ ->
   (∀x H' F',Gr H F H' F'->RD X.K H' F' (.obj u.kn xs) (.ref x)->Q (.ref x) H')->t τ H Q:=by
 obtain⟨fm,fdm,psm,q1,q2,q3,q4,q7,q8,q9,fy,hJ,q12⟩:=(g.meth u hu).ex
 have h2k:=g.two (λz=>by rw [z] at hu;cases hu)
 obtain⟨t,pt,q⟩:=h
 have key:∀(H:Hp) (F:Fz) (H1:Hp) (F1:Fz) (xs:List D) (vs:List V) (Q:VK),xs.length=u.kn.ns.length->Gr H F H1 F1->RDs X.K H1 F1 xs vs->(∀x H' F',Gr H F H' F'->RD X.K H' F' (.obj u.kn xs) (.ref x)->Q (.ref x) H')->∀x dx,H1 x=none->H1 dx=none->dx≠x ->
   qW X.K u.kn.ns (.ref x::(vs++[])) (ay (ay H1 dx (.own x)) x (.ins u.kn.c dx [])) (λv H2=>v=.non/\Q (.ref x) H2) E0:=λH F H1 F1 xs vs Q hl g1 rs kk x dx hx hdx hne3=>by
  have hvl:vs.length=u.kn.ns.length:=by rw [RDs.length rs,hl]
  have g2:Gr H1 F1 (ay (ay H1 dx (.own x)) x (.ins u.kn.c dx (iC u.kn.ns vs []))) F1:=(Gr.laid g1.dom hdx).trans (Gr.laid (Gr.laid g1.dom hdx).dom (by rw [aD hne3.symm];exact hx))
  refine⟨x,u.kn.c,dx,vs,by rw [iX],hvl,cD,q3,q4,rfl,?_⟩
  rw [Aw]
  refine kk x _ F1 (g1.trans g2) ⟨x,vs,rfl,.of (g.ccl u hu) ⟨dx,_,cD,q3,λj f hj=>⟨q4 f (jV hj),zX _ vs [] j f q12 hvl hj⟩,λgg hgg=>?_⟩,RDs.mono g2.keep rs⟩
  rw [tO _ _ _ _ hgg]
  rfl
 rcases q2 with ⟨fi,fdi,psi,q2,q5,q6⟩|⟨hns,q2⟩
 rotate_left
 ·have e0:es=[]∨es≠[]:=by cases es<;>simp
  rcases e0 with rfl|hne
  ·refine⟨_,qJP (p:=p) (pos:=pos) q2 (g.gl _ hg) q1 hd,λGe H F Z τ xs Q ex hl hs kk=>?_⟩
   intro x dx hx hdx hne3
   have hc:cs=[]:=yaG.mp hlen
   subst hc
   cases ex
   have g2:Gr H F (ay (ay H dx (.own x)) x (.ins u.kn.c dx [])) F:=(Gr.laid hs.dom hdx).trans (Gr.laid (Gr.laid hs.dom hdx).dom (by rw [aD hne3.symm];exact hx))
   refine kk x _ F g2 ⟨x,[],rfl,.of (g.ccl u hu) ⟨dx,_,cD,q3,λj f hj=>?_,λgg hgg=>rfl⟩,rfl⟩
   rw [hns] at hj
   simp at hj
  ·refine⟨λ_ _ _=>False,λ_ _ _ _ _ _ z=>z.elim,λGe H F Z τ xs Q ex hl hs kk=>?_⟩
   have h1:=yU ex
   rw [hns,qK] at hl
   rw [hlen,hl] at h1
   exact hne (yaG.mp h1.symm)
 cases es with
 | nil =>
  refine⟨_,qJQ (p:=p) (pos:=pos) q2 q6 (g.room.mono h2k) (g.gl _ hg) q1 q5 .nil kj hd,λGe H F Z τ xs Q ex hl hs kk=>?_⟩
  have hc:cs=[]:=yaG.mp hlen
  subst hc
  cases ex
  exact key H F H F [] [] Q hl (Gr.refl hs.dom) rfl kk
 | cons e es =>
  rw [eS,aL] at hn
  refine⟨_,qMQ (p:=p) (pos:=pos) q2 q6 (g.room.mono h2k) (g.gl _ hg) q1 q5 .nil kj pt hd (bK hn.1) (gY hn.2),λGe H F Z τ xs Q ex hl hs kk=>?_⟩
  refine q Ge H F Z τ xs _ ex hs λvs H1 F1 g1 rs=>?_
  exact key H F H1 F1 xs vs Q hl g1 rs kk
noncomputable def qTL (X:Cx) (e:Expr):TE:=fun Z H Q=>∃t:TE,PE X e t/\t Z H Q
theorem qPc:PE X e (qTL X e):=λpins s Z H Q I h=>let ⟨_,p,q⟩:=h;p pins s Z H Q I q
theorem yp (hn2:bs.all cK=true) (h30:bs.length<30):methodCallForm (bs.length+([]:List Keyword).length) (backTo pos2 (starEach bs X.env)) (backToKw pos2 (keywordEach [] X.env))=true:=by
 unfold methodCallForm
 rw [qJv hn2,Bool.true_and,aL]
 exact⟨rfl,Qk h30⟩
theorem BB:∀{l:List (Nat×β)},l.lookup c=some b->(c,b)∈l
 | (a,x)::r,h=>by
  rw [gf] at h
  split at h
  ·rename_i hc
   have hc:c=a:=by simpa using hc
   cases h
   rw [hc]
   exact dF
  ·exact dq _ (BB h)
theorem qOx (g:XG call G k X sc N) (hb:jl a=true) (h1:SndE call X a ca) (hn2:bs.all cK=true) (hbl:ds.length=bs.length) (hln:(p2.endLine == pos2.line)=true) (h30:bs.length<30)
  (h2:gj call X bs ds):SndE call X (.Call (.Attribute a m p2) bs [] pos2) (.mc ca m (nX G m) ds):=by
 obtain⟨t1,pt1,qt1⟩:=h1
 obtain⟨t2,pt2,qq⟩:=h2
 refine⟨_,qPc,λGe H F Z τ r Q hr hs kk=>?_⟩
 rw [yk] at hr
 obtain⟨⟨b,d⟩,ey,hr⟩:=ae hr
 obtain⟨f,eq,hr⟩:=ae hr
 obtain⟨ys,ez,hr⟩:=ae hr
 cases d with
 | obj kn os =>
  have eq:(if kn.ns.all (λf=>f != m)=true then (nX G m).lookup kn.c else none)=some f:=eq
  split at eq
  ·rename_i hm
   have hmem:=BB eq
   unfold nX at hmem
   obtain⟨u,hu,eu⟩:=yaI.mp hmem
   obtain⟨hu2,hum⟩:=ybc.mp hu
   clear hu hmem
   have hum:u.m=m:=by simpa using hum
   have e1:u.kn.c=kn.c:=(iV eu).1
   have e2:u.i=f:=(iV eu).2
   subst hum e2
   obtain⟨fm,fdm,psm,q1,q2,q3,q4,q7,q8,q9,fy,hJ,q12⟩:=(g.meth u hu2).ex
   cases bs with
   | nil =>
    have few:=yp (X:=X) (pos2:=pos2) (bs:=[]) rfl (by decide)
    obtain rfl:ds=[]:=yaG.mp hbl
    cases ez
    refine⟨_,qJO (apos:=p2) (pos:=pos2) pt1 q3 q7 q9 g.room q8 .nil kj (zK (sf hb _ _) few hln),?_⟩
    refine qt1 Ge H F Z τ _ _ ey hs λv H1 F1 g1 rr=>?_
    obtain⟨a',vs,rfl,oi,o6⟩:=rr.look.obj
    obtain⟨dx,fs,o2,o3,o4,o5⟩:=oi.ins (e1▸g.ccl u hu2)
    rw [<-e1] at o2
    refine⟨a',dx,fs,rfl,o2,o5 _ λz=>?_,?_⟩
    ·have:=yaH.mp hm _ z
     simp at this
    have rd:RD X.K H1 F1 (.obj kn os) (.ref a'):=by
     cases b with
     | false=>exact rr
     | true=>obtain⟨_,_,_,z,_⟩:=rr;cases z
    have rg:RGs X.K H1 F1 [.obj kn os] (.ref a'::([]++[])):=⟨.ref a',[],rfl,.inl rd,rfl⟩
    exact⟨by rw [RGs.length rg];exact fy _ _ hr,F1,_,r,(hs.grow g1).tbH,g1.dom,rg,hr,λv H' F' g4 rr=>kk v H' F' (g1.trans g4) (rr.back g1.same)⟩
   | cons b2 bs =>
    have few:=yp (X:=X) (pos2:=pos2) hn2 h30
    rw [eS,aL] at hn2
    refine⟨_,qMP (apos:=p2) (pos:=pos2) pt1 q3 q7 q9 g.room q8 .nil kj pt2 (bK hn2.1) (gY hn2.2) (zK (sf hb _ _) few hln),?_⟩
    refine qt1 Ge H F Z τ _ _ ey hs λv H1 F1 g1 rr=>?_
    obtain⟨a',vs,rfl,oi,o6⟩:=rr.look.obj
    obtain⟨dx,fs,o2,o3,o4,o5⟩:=oi.ins (e1▸g.ccl u hu2)
    rw [<-e1] at o2
    refine⟨a',dx,fs,rfl,o2,o5 _ λz=>?_,?_⟩
    ·have:=yaH.mp hm _ z
     simp at this
    refine qq Ge H1 F1 Z τ ys _ ez (hs.grow g1) λws H3 F3 g3 rs2=>?_
    have rd:RD X.K H3 F3 (.obj kn os) (.ref a'):=RD.mono g3.keep (by
     cases b with
     | false=>exact rr
     | true=>obtain⟨_,_,_,z,_⟩:=rr;cases z)
    have rg:RGs X.K H3 F3 (.obj kn os::ys) (.ref a'::(ws++[])):=by
     rw [iX]
     exact⟨.ref a',ws,rfl,.inl rd,RGs.of rs2⟩
    exact⟨by rw [RGs.length rg];exact fy _ _ hr,F3,_,r,((hs.grow g1).grow g3).tbH,g3.dom,rg,hr,λv H' F' g4 rr=>kk v H' F' ((g1.trans g3).trans g4) (rr.back (g1.trans g3).same)⟩
  ·cases eq
 | _=>cases eq
theorem qOw (g:XG call G k X sc N) (hu:u∈G.meth) (hg:bf sc u.c=true) (hd:(u.c == ("__debug__":Str))=false) (hn:es.all cK=true) (h:gj call X es cs) (hlen:cs.length=es.length):SndE call X (.Call (.Name u.c p) es [] pos) (.mk u.kn cs):=by
 obtain⟨t,pt,qt⟩:=qR9 (p:=p) (pos:=pos) g hu hg hd hn h hlen
 refine⟨t,pt,λGe H F Z τ r Q hr hs kk=>?_⟩
 rw [ym] at hr
 obtain⟨xs,ex,hr⟩:=ae hr
 split at hr
 ·rename_i hl
  cases hr
  exact qt Ge H F Z τ xs Q ex hl hs λx H' F' g' rd=>kk _ H' F' g' rd
 ·cases hr
theorem qHX (h:rF G c=some u):u∈G.meth/\u.c=c:=by
 unfold rF at h
 have h1:=List.mem_of_find?_eq_some h
 have h2:=List.find?_some h
 simp only [beq_iff_eq] at h2
 exact⟨h1,h2⟩
end
def iG (sc:Scope) (N:List Str):Nat->List Str->List Stmt->Bool
 | _,[],[]=>true
 | j,f::ns,.Assign [.Attribute (.Name s _) g _] (.Name p _) _::r=>g == f&&ck sc N s == some 0&&ck sc N p == some (j+1)&&iG sc N (j+1) ns r
 | _,_,_=>false
section
variable {call:Nat->List D->Option R}{G:Gx}{k:Nat}{X:Cx}{sc:Scope}{N:List Str}
theorem qGK {f:Str}{ns:List Str}{st:Stmt}{r:List Stmt}(h:iG sc N j (f::ns) (st::r)=true):∃s sp gp p pp ap,st=.Assign [.Attribute (.Name s sp) f gp] (.Name p pp) ap/\ck sc N s=some 0/\ck sc N p=some (j+1)/\iG sc N (j+1) ns r=true:=by
 unfold iG at h
 split at h
 ·rename_i h1 h2;cases h2
 ·rename_i _ _ _ _ s sp g' gp p pp ap _ e1 e2
  cases e1
  cases e2
  rw [aL,aL,aL] at h
  obtain⟨⟨⟨hf,hs⟩,hp⟩,hr⟩:=h
  have hf:g'=f:=by simpa using hf
  subst hf
  exact⟨s,sp,gp,p,pp,ap,rfl,by simpa using hs,by simpa using hp,hr⟩
 ·cases h
theorem Bb (g:XG call G k X sc N):∀(ns:List Str) (j:Nat) (body:List Stmt),iG sc N j ns body=true->∃t,PSs X body t/\∀(Z:L2.St) (H:Hp) (x C dx:Addr) (fs:List (Str×V)) (ws:List V) (Dn:Ends),Z[0]?=some (some (.ref x))->(∀i w,ws[i]?=some w->Z[j+1+i]?=some (some w))->ws.length=ns.length ->
  H x=some (.ins C dx fs)->Cls X.K C->(∀f∈ns,NoAttr X.K C f)->fs.length+ns.length<1000->Dn.nx Z (ay H x (.ins C dx (iC ns ws fs)))->t Dn Z H
 | [],j,[],_=>⟨_,zV,fun Z H x C dx fs ws Dn h0 hw hl hH hC hN hz hq=>by
   have e:ay H x (.ins C dx fs)=H:=by
    funext b
    by_cases h:b=x
    ·subst h;rw [cD,hH]
    ·rw [aD h]
   have hq:Dn.nx Z (ay H x (.ins C dx fs)):=hq
   rw [e] at hq
   exact hq⟩
 | [],_,_::_,h=>by cases h
 | f::ns,j,[],h=>by cases h
 | f::ns,j,st::r,h=>by
  obtain⟨s,sp,gp,p,pp,ap,rfl,hs,hp,hr⟩:=qGK h
  obtain⟨s1,s2,s3,s4⟩:=jq g hs
  obtain⟨p1,p2,p3,p4⟩:=jq g hp
  obtain⟨t,pt,qt⟩:=Bb g ns (j+1) r hr
  refine⟨_,AJ (qOV (gT (i:=0) s1 s2 s3 s4) (gT (i:=j+1) p1 p2 p3 p4) rfl) pt,fun Z H x C dx fs ws Dn h0 hw hl hH hC hN hz hq=>?_⟩
  cases ws with
  | nil=>simp at hl
  | cons w ws =>
   refine⟨w,hw 0 w rfl,.ref x,h0,x,C,dx,fs,rfl,hH,hC,hN _ dF,by simp at hz;omega,?_⟩
   refine qt Z _ x C dx (cB f w fs) ws Dn h0 (λi u hi=>?_) (by simpa using hl) cD hC (λf hf=>hN f (dq _ hf)) (by have:=AK f w fs;simp at hz;omega) ?_
   ·have:=hw (i+1) u (by simpa using hi)
    rw [show j+1+1+i=j+1+(i+1) by omega]
    exact this
   ·rw [Aw]
    exact hq
end
end Dw
namespace Dw
open PySem PySem.Spec PyProof.Rows L2
theorem ei {Z:En}{i:Nat}{o:Option R}(h:i<Z.length):ar (Z.set i o) i=o:=by
 simp [ar,h]
theorem cC (h:i≠j):ar (Z.set i o) j=ar Z j:=by
 simp [ar,bU h]
theorem fJ (h:ar Z i=some r):i<Z.length:=by
 by_cases hi:i<Z.length
 ·exact hi
 ·have:Z[i]?=none:=List.getElem?_eq_none (by omega)
  simp [ar,this] at h
section
variable {K:Qb}{G:Gp}{H H1:Hp}{F F1:Fz}{Z:En}{τ:L2.St}{i:Nat}{d:D}{v:V}
theorem SR.bind (s:SR K G H F Z τ) (h:RD K H F d v):SR K G H F (Z.set i (some (false,d))) (τ.set i (some v)):=by
 refine⟨by simp [s.len],s.ent,s.dom,λj e hj=>?_,λj e hj hd=>?_,λj k e e' hj hk hjk=>?_,λj m ks hj=>?_,λp e hp hj=>?_⟩
 ·by_cases hij:i=j
  ·subst hij
   have hl:i<Z.length:=by simpa using fJ hj
   rw [ei hl] at hj
   cases hj
   exact⟨v,by rw [jW (by rw [<-s.len];exact hl)],h⟩
  ·rw [cC hij] at hj
   obtain⟨u,h1,h2⟩:=s.val j e hj
   exact⟨u,by rw [bU hij];exact h1,h2⟩
 ·have hij:i≠j:=λz=>by
   subst z
   have hl:i<Z.length:=by simpa using fJ hj
   rw [ei hl] at hj
   cases hj
  rw [cC hij] at hj
  obtain⟨a,ds,vs,h1,h2,h3⟩:=s.own j e hj hd
  exact⟨a,ds,vs,h1,by rw [bU hij];exact h2,h3⟩
 ·have nj:∀{j:Nat} {e:D},ar (Z.set i (some (false,d))) j=some (true,e)->i≠j:=λ{j e} hj z=>by
   subst z
   have hl:i<Z.length:=by simpa using fJ hj
   rw [ei hl] at hj
   cases hj
  have n1:=nj hj
  have n2:=nj hk
  rw [cC n1] at hj
  rw [cC n2] at hk
  rw [bU n1,bU n2] at hjk
  exact s.sep j k e e' hj hk hjk
 ·have hij:i≠j:=λz=>by
   subst z
   have hl:i<Z.length:=by simpa using fJ hj
   rw [ei hl] at hj
   cases hj
  rw [cC hij] at hj
  obtain⟨a,h1,h2⟩:=s.dct j m ks hj
  exact⟨a,by rw [bU hij];exact h1,h2⟩
 ·have hij:i≠0:=λz=>by
   subst z
   have hl:0<Z.length:=by simpa using fJ hj
   rw [ei hl] at hj
   cases hj
  rw [cC hij] at hj
  rw [bU hij]
  exact s.pin p e hp hj
theorem SR.skip (s:SR K G H F Z τ) (h:ar Z i=none):SR K G H F Z (τ.set i (some v)):=by
 have ne:∀{j:Nat} {r:R},ar Z j=some r->i≠j:=λ{j r} e z=>by subst z;rw [h] at e;cases e
 refine⟨by simp [s.len],s.ent,s.dom,λj e hj=>?_,λj e hj hd=>?_,λj k e e' hj hk hjk=>?_,λj m ks hj=>?_,λp e hp hj=>?_⟩
 ·obtain⟨u,h1,h2⟩:=s.val j e hj
  exact⟨u,by rw [bU (ne hj)];exact h1,h2⟩
 ·obtain⟨a,ds,vs,h1,h2,h3⟩:=s.own j e hj hd
  exact⟨a,ds,vs,h1,by rw [bU (ne hj)];exact h2,h3⟩
 ·rw [bU (ne hj),bU (ne hk)] at hjk
  exact s.sep j k e e' hj hk hjk
 ·obtain⟨a,h1,h2⟩:=s.dct j m ks hj
  exact⟨a,by rw [bU (ne hj)];exact h1,h2⟩
 ·rw [bU (ne hj)]
  exact s.pin p e hp hj
theorem SR.keep (s:SR K G H F Z τ) (k:Keep H F H1 F1) (ent:Same G'.h H1) (dom:∀a,H1 a=none->¬F1 a)
  (own:∀i d,ar Z i=some (true,d)->i3 d=false->∃a ds vs,d=.lst ds/\τ[i]?=some (some (.ref a))/\G' a=none/\¬F1 a/\H1 a=some (.lst vs)/\RDs K H1 F1 ds vs)
  (dct:∀i m ks,ar Z i=some (true,.dct m ks)->∃a,τ[i]?=some (some (.ref a))/\¬F1 a/\H1 a=some (.dK (dk ks))/\(m=true->G' a=none))
  (pin:∀p d,G'.pin=some p->ar Z 0=some (true,d)->τ[0]?=some (some (.ref p))):SR K G' H1 F1 Z τ:=
 ⟨s.len,ent,dom,λi d e=>let ⟨v,h1,h2⟩:=s.val i d e;⟨v,h1,RD.mono k h2⟩,own,s.sep,dct,pin⟩
theorem Keep.trans (a:Keep H F H1 F1) (b:Keep H1 F1 H2 F2):Keep H F H2 F2:=
 ⟨λp xs h=>b.tups p xs (a.tups p xs h),λp xs f h=>b.lsts p xs (a.lsts p xs f h).1 (a.lsts p xs f h).2,λp C dx fs h=>b.inss p C dx fs (a.inss p C dx fs h),λp o u h=>b.frzs p o u (a.frzs p o u h)⟩
theorem Keep.refl:Keep H F H F:=⟨λ_ _ h=>h,λ_ _ f h=>⟨f,h⟩,λ_ _ _ _ h=>h,λ_ _ _ h=>h⟩
end
section
variable {call:Nat->List D->Option R}{G:Gx}{k:Nat}{X:Cx}{sc:Scope}{N:List Str}
def gL:List Nat->iT
 | []=>rh
 | i::is=>oJ (jf i) (gL is)
def mR (K:Qb):Tg->TG
 | .one i=>jf i
 | .two i j=>ri K 2 (oJ (jf i) (oJ (jf j) rh))
 | .many is=>ri K is.length (gL is)
theorem ku (g:XG call G k X sc N) (h:(sc.names.lookup x == some .local||sc.names.lookup x == some .cell)=true):k9 X.env.scope x/\(X.fn x=true∨X.env.scope.names.lookup x=some .local):=g.loc x h
theorem qOt (g:XG call G k X sc N) (h:eW sc N tg=some t):PG X tg (mR X.K t):=by
 unfold eW at h
 split at h
 ·rename_i x pos
  split at h
  ·rename_i hx
   cases hi:bQ N x with
   | none=>rw [hi] at h;cases h
   | some i =>
    rw [hi] at h
    cases h
    obtain⟨l1,l2⟩:=ku g hx
    exact pD (by rw [g.hN];exact g.nd) (by rw [g.hN];exact gX hi) l1 l2
  ·cases h
 ·rename_i x p y p' kk pos
  split at h
  ·rename_i hx
   rw [aL,aL] at hx
   obtain⟨⟨hx,hy⟩,hne⟩:=hx
   cases hi:bQ N x with
   | none=>rw [hi] at h;cases h
   | some i =>
    cases hj:bQ N y with
    | none=>rw [hi,hj] at h;cases h
    | some j =>
     rw [hi,hj] at h
     cases h
     obtain⟨l1,l2⟩:=ku g hx
     obtain⟨m1,m2⟩:=ku g hy
     exact pd g.calm (sZ (pD (by rw [g.hN];exact g.nd) (by rw [g.hN];exact gX hi) l1 l2) (sZ (pD (by rw [g.hN];exact g.nd) (by rw [g.hN];exact gX hj) m1 m2) zR))
  ·cases h
 ·cases h
theorem As {K:Qb}{Ge:Gp}{H:Hp}{F:Fz}{Z Z':En}{τ:L2.St}{t:Tg}{d:D}{v:V}{Q:L2.St->Hp->Prop}(hm:∀is,t≠.many is) (s:SR K Ge H F Z τ) (hb:cF Z t d=some Z') (hv:RD K H F d v)
  (h:∀τ',SR K Ge H F Z' τ'->(∀Z0:En,SR K Ge H F Z0 τ->(∀i,(t=.one i∨∃j,t=.two i j∨t=.two j i)->ar Z0 i=none)->SR K Ge H F Z0 τ')->Q τ' H):mR K t v τ H Q:=by
 cases t with
 | one i =>
  cases hb
  exact h _ (s.bind hv) fun Z0 s0 hn=>s0.skip (hn i (.inl rfl))
 | two i j =>
  unfold cF at hb
  split at hb
  ·rename_i heq;cases heq
  ·rename_i i' j' x y heq
   cases heq
   cases hb
   obtain⟨a,vs,rfl,hs,hr⟩:=hv
   obtain⟨v1,r,rfl,h1,w,r2,e2,h2,h3⟩:=hr
   have h3:r2=[]:=h3
   subst h3
   subst e2
   exact⟨a,[v1,w],rfl,hs,rfl,v1,[w],rfl,w,[],rfl,rfl,h _ ((s.bind h1).bind h2) fun Z0 s0 hn=>(s0.skip (hn i (.inr ⟨j,.inl rfl⟩))).skip (hn j (.inr ⟨i,.inr rfl⟩))⟩
  ·rename_i heq;cases heq
  ·cases hb
 | many is=>exact Qn rfl (hm is)
theorem BC {K:Qb}{Ge:Gp}{H:Hp}{F:Fz}{Q:L2.St->Hp->Prop}:∀{is:List Nat}{ds:List D}{vs:List V}{Z Z':En}{τ:L2.St},SR K Ge H F Z τ->kD Z is ds=some Z'->RDs K H F ds vs->(∀τ',SR K Ge H F Z' τ'->Q τ' H)->gL is vs τ H Q
 | [],ds,vs,Z,Z',τ,s,hb,hv,h=>by
  cases ds with
  | nil=>cases hb;have hv:vs=[]:=hv;exact⟨hv,h _ s⟩
  | cons d r=>cases hb
 | i::is,ds,vs,Z,Z',τ,s,hb,hv,h=>by
  cases ds with
  | nil=>cases hb
  | cons d r =>
   obtain⟨v,w,rfl,h1,h2⟩:=hv
   exact⟨v,w,rfl,BC (s.bind h1) hb h2 h⟩
theorem tL:∀{is:List Nat}{ds:List D}{Z Z':En},kD Z is ds=some Z'->ds.length=is.length
 | [],[],_,_,_=>rfl
 | [],_::_,_,_,h=>by cases h
 | _::_,[],_,_,h=>by cases h
 | i::is,d::ds,Z,Z',h=>by rw [fC,fC,tL (show kD (Z.set i (some (false,d))) is ds=some Z' from h)]
theorem my {K:Qb}{Ge:Gp}{H:Hp}{F:Fz}{Z Z':En}{τ:L2.St}{t:Tg}{d:D}{v:V}{Q:L2.St->Hp->Prop}(s:SR K Ge H F Z τ) (hb:cF Z t d=some Z') (hv:RD K H F d v)
  (h:∀τ',SR K Ge H F Z' τ'->Q τ' H):mR K t v τ H Q:=by
 cases t with
 | one i=>exact As (λ_ z=>nomatch z) s hb hv fun τ' s' _=>h τ' s'
 | two i j=>exact As (λ_ z=>nomatch z) s hb hv fun τ' s' _=>h τ' s'
 | many is =>
  unfold cF at hb
  split at hb
  ·rename_i heq;cases heq
  ·rename_i heq;cases heq
  ·rename_i is' ds heq
   cases heq
   obtain⟨a,vs,rfl,hs,hr⟩:=hv
   exact⟨a,vs,rfl,hs,by rw [RDs.length hr];exact tL hb,BC s hb hr h⟩
  ·cases hb
theorem qR5 (g:XG call G k X sc N) (h:eX sc N e=some i):PG X e (jf i)/\∃x p,e=.Name x p:=by
 unfold eX at h
 split at h
 ·rename_i x pos
  split at h
  ·rename_i hx
   obtain⟨l1,l2⟩:=ku g hx
   exact⟨pD (by rw [g.hN];exact g.nd) (by rw [g.hN];exact gX h) l1 l2,x,pos,rfl⟩
  ·cases h
 ·cases h
theorem yL (g:XG call G k X sc N):∀{es:List Expr}{is:List Nat},cL (eX sc N) es=some is->mX X es (gL is)/\(assignEach es X.env).length=is.length/\(assignEach es X.env).findIdx? (·.1)=none
 | [],is,h=>by cases h;exact⟨zR,rfl,rfl⟩
 | e::es,is,h=>by
  unfold cL at h
  cases hx:eX sc N e with
  | none=>rw [hx] at h;cases h
  | some i =>
   rw [hx] at h
   cases hy:cL (eX sc N) es with
   | none=>simp only [dE] at h;rw [hy] at h;cases h
   | some js =>
    simp only [dE] at h
    rw [hy] at h
    cases h
    obtain⟨p1,x,p,rfl⟩:=qR5 g hx
    obtain⟨q1,q2,q3⟩:=yL g hy
    refine⟨sZ p1 q1 rfl,?_,?_⟩
    ·show (assignEach es X.env).length+1=_
     rw [q2];rfl
    ·show List.findIdx? _ ((false,_)::assignEach es X.env)=none
     rw [List.findIdx?_cons,q3];rfl
theorem qLO (h:eW sc N tg=some t):∀is,t≠.many is:=by
 intro is z
 subst z
 unfold eW at h
 split at h
 ·split at h
  ·rename_i x _ _;cases hx:bQ N x<;>(rw [hx] at h;cases h)
  ·cases h
 ·split at h
  ·rename_i x _ y _ _ _ _;cases hx:bQ N x<;>rw [hx] at h<;>first|cases h|(cases hy:bQ N y<;>(rw [hy] at h;cases h))
  ·cases h
 ·cases h
theorem sH (g:XG call G k X sc N) (h:eU sc N tg=some t):PG X tg (mR X.K t):=by
 unfold eU at h
 cases ht:eW sc N tg with
 | some t' =>
  rw [ht] at h
  cases h
  exact qOt g ht
 | none =>
  rw [ht] at h
  cases tg with
  | Tuple es kk pos =>
   have h:(cL (eX sc N) es).map Tg.many=some t:=h
   cases hx:cL (eX sc N) es with
   | none=>rw [hx] at h;cases h
   | some is =>
    rw [hx] at h
    cases h
    obtain⟨q1,q2,q3⟩:=yL g hx
    exact pd g.calm q1 q2 q3
  | _=>cases h
end
def ItOk (K:Qb) (J:It) (H:Hp) (F:Fz) (its:List D):Prop:=∀H' F',Keep H F H' F'->(∀a,H' a=none->¬F' a) ->
 (∀i d,its[i]?=some d->J.go i H'/\∀x H3,J.yld i H' x H3->∃F3,Gr H' F' H3 F3/\RD K H3 F3 d x)/\J.stop its.length H'
def oO (K:Qb) (J:It) (H:Hp) (F:Fz) (its:List D):Prop:=∀H' F',Gr H F H' F' ->
 (∀i d,its[i]?=some d->J.go i H'/\∀x H3,J.yld i H' x H3->∃F3,Gr H' F' H3 F3/\RD K H3 F3 d x)/\J.stop its.length H'
theorem ItOk.g {K:Qb}{J:It}{H:Hp}{F:Fz}{its:List D}(h:ItOk K J H F its):oO K J H F its:=λH' F' g=>h H' F' g.keep g.dom
theorem qPT {K:Qb}{H:Hp}{F:Fz}{a:Addr}{ds:List D}{vs:List V}(h:SqL K H a vs) (r:RDs K H F ds vs):oO K (qc K a) H F ds:=by
 intro H' F' g
 have h':SqL K H' a vs:=h.elim (λz=>.inl (sG g.same z)) .inr
 have r':=RDs.mono g.keep r
 have hl:=RDs.length r'
 refine⟨λi d hd=>?_,⟨vs,h',by omega⟩⟩
 obtain⟨v,e1,e2⟩:=RDs.get r' hd
 refine⟨⟨vs,v,h',e1⟩,λx H3 y=>?_⟩
 obtain⟨rfl,y⟩:=y
 have:=y vs h'
 rw [e1] at this
 cases this
 exact⟨F',Gr.refl g.dom,e2⟩
theorem qNp {K:Qb}{H:Hp}{F:Fz}{a:Addr}{ds:List D}{vs:List V}(h:LsR K H F a vs) (r:RDs K H F ds vs):ItOk K (qc K a) H F ds:=by
 intro H' F' k dom
 have h':LsR K H' F' a vs:=h.elim (λz=>.inl (k.lsts _ _ z.1 z.2)) .inr
 have r':=RDs.mono k r
 have hl:=RDs.length r'
 refine⟨λi d hd=>?_,⟨vs,h'.sq,by omega⟩⟩
 obtain⟨v,e1,e2⟩:=RDs.get r' hd
 refine⟨⟨vs,v,h'.sq,e1⟩,λx H3 y=>?_⟩
 obtain⟨rfl,y⟩:=y
 have:=y vs h'.sq
 rw [e1] at this
 cases this
 exact⟨F',Gr.refl dom,e2⟩
theorem yw {K:Qb}{H:Hp}{F:Fz}{a:Addr}{ds:List D}{vs:List V}(h:SqT K H a vs) (r:RDs K H F ds vs):ItOk K (vX K a) H F ds:=by
 intro H' F' k dom
 have h':SqT K H' a vs:=h.elim (λz=>.inl (k.tups _ _ z)) .inr
 have r':=RDs.mono k r
 have hl:=RDs.length r'
 refine⟨λi d hd=>?_,⟨vs,h',by omega⟩⟩
 obtain⟨v,e1,e2⟩:=RDs.get r' hd
 refine⟨⟨vs,v,h',e1⟩,λx H3 y=>?_⟩
 obtain⟨rfl,y⟩:=y
 have:=y vs h'
 rw [e1] at this
 cases this
 exact⟨F',Gr.refl dom,e2⟩
theorem qPU {K:Qb}{H:Hp}{F:Fz}(lo:Int) (n:Nat):ItOk K (p9 lo n) H F ((List.range n).map λi=>.int (lo+(i:Nat))):=by
 intro H' F' k dom
 refine⟨λi d hd=>?_,?_⟩
 ·rw [gE] at hd
  cases q:(List.range n)[i]? with
  | none=>rw [q] at hd;cases hd
  | some j =>
   rw [q] at hd
   obtain⟨hl,ej⟩:=yal.mp q
   simp at hl ej
   subst ej
   cases hd
   refine⟨hl,λx H3 y=>?_⟩
   obtain⟨rfl,rfl⟩:=y
   exact⟨F',Gr.refl dom,rfl⟩
 ·show n<=_
  simp
theorem sP {K:Qb}{H:Hp}{F:Fz}(lo st:Int) (n:Nat):ItOk K (hV lo st n) H F ((List.range n).map λi=>.int (lo+(i:Nat) * st)):=by
 intro H' F' k dom
 refine⟨λi d hd=>?_,?_⟩
 ·rw [gE] at hd
  cases q:(List.range n)[i]? with
  | none=>rw [q] at hd;cases hd
  | some j =>
   rw [q] at hd
   obtain⟨hl,ej⟩:=yal.mp q
   simp at hl ej
   subst ej
   cases hd
   refine⟨hl,λx H3 y=>?_⟩
   obtain⟨rfl,rfl⟩:=y
   exact⟨F',Gr.refl dom,rfl⟩
 ·show n<=_
  simp
end Dw
namespace Dw
open PySem PySem.Spec PyProof.Rows L2
section
variable {prog:Program}{w:World}{A:Around}{E:Value->Shared->Prop}{s:Shared}
theorem qM8 (hp:s.heap.IsTupleIter p t k) (ht:s.heap.IsTuple t its) (hy:its[k]?=some y)
  (q:∀h1,h1.IsTupleIter p t (k+1)->Heap.SameBut p s.heap h1->Q y { s with heap:=h1 }):wpAny (model prog w) A (Builtin.SmallTypes.nextOf (.ref p)) Q E s:=by
 obtain⟨b,b1,b2,b3⟩:=id hp;obtain⟨c,c1,_,n1,c3⟩:=ht;unfold Builtin.SmallTypes.nextOf
 refine Qc (wpAny_callSpecial?_slot (name:=Qa "__next__") hp.typeIs F.slot_tuple_iterator_next (wpAny_call_entry F.slot_tuple_iterator_next hp.typeIs F.entry_tuple_iterator_next ?_ (F.args_tuple_iterator_next_1 _)))
 show wpAny _ _ (field (.ref p) 0 >>= _) _ _ s
 refine Qc (Qf b1 b3 (x:=.ref t) rfl ?_);show wpAny _ _ (if (Value.ref t == Value.none)=true then _ else _) _ _ s
 rw [Qm (show ¬((Value.ref t == Value.none)=true) from fg)];show wpAny _ _ (field (.ref p) 1 >>= _) _ _ s
 refine Qc (Qf b1 b3 (x:=.int k 0) rfl ?_);show wpAny _ _ (seqItems? (.ref t) >>= _) _ _ s
 refine Qc (wpAny_seqItems c1 c3 ?_);simp only [hy,nI]
 refine Qc (wpAny_setField b1 b3 (by simp) (Qd ⟨y,rfl,Qd (q _ ?_ (Heap.SameBut.update ..))⟩))
 exact⟨_,Heap.get?_update_self _ b1 (Obj.isFreed_of_fields (Obj.data_mapFields b3 _)),(Obj.cls_mapFields ..).trans b2,by (rw [Obj.data_mapFields b3];simp [rawInt])⟩
theorem qPr (hh:A.handled=none) (hp:s.heap.IsTupleIter p t k) (ht:s.heap.IsTuple t its) (hy:its[k]?=none)
  (q:∀h1 e,Heap.ExtBut p s.heap h1->(∃o,h1.get? e=some o/\o.cls=.type "StopIteration")->E (.ref e) { s with heap:=h1 }):wpAny (model prog w) A (Builtin.SmallTypes.nextOf (.ref p)) Q E s:=by
 obtain⟨b,b1,b2,b3⟩:=id hp;obtain⟨c,c1,_,n1,c3⟩:=ht;unfold Builtin.SmallTypes.nextOf
 refine Qc (wpAny_callSpecial?_slot (name:=Qa "__next__") hp.typeIs F.slot_tuple_iterator_next (wpAny_call_entry F.slot_tuple_iterator_next hp.typeIs F.entry_tuple_iterator_next ?_ (F.args_tuple_iterator_next_1 _)))
 show wpAny _ _ (field (.ref p) 0 >>= _) _ _ s
 refine Qc (Qf b1 b3 (x:=.ref t) rfl ?_);show wpAny _ _ (if (Value.ref t == Value.none)=true then _ else _) _ _ s
 rw [Qm (show ¬((Value.ref t == Value.none)=true) from fg)];show wpAny _ _ (field (.ref p) 1 >>= _) _ _ s
 refine Qc (Qf b1 b3 (x:=.int k 0) rfl ?_);show wpAny _ _ (seqItems? (.ref t) >>= _) _ _ s
 refine Qc (wpAny_seqItems c1 c3 ?_);simp only [hy,nI]
 refine Qc (wpAny_rule (Qc (wpAny_setField b1 b3 (by simp) ?_)));show wpAny _ _ (newExc (.type "StopIteration") [] >>= _) _ _ _
 refine Qc ?_;simp only [newExc,newTuple];refine Qc (wpAny_newObj_type ?_ (by size_fits))
 refine Qc (m:=firstArgMember _ _) (wpAny_of_eq (a:=Value.none) (by first|rfl|(simp only [firstArgMember];rfl)) ?_);refine wpAny_newObj_type ?_ (by size_fits)
 simp only [raiseNew];refine Qc (wpAny_handled ?_);first|rw [show A.in1.handled=none from hh]|rw [hh]
 refine Qc (Qd (wpAny_throw ?_));exact q _ _ (((Heap.SameBut.update ..).extBut.push _).push _) ⟨_,Qh _ rfl,rfl⟩
theorem qNb (hp:s.heap.IsListIter p t k) (ht:s.heap.IsList t its) (hy:its[k]?=some y)
  (q:∀h1,h1.IsListIter p t (k+1)->Heap.SameBut p s.heap h1->Q y { s with heap:=h1 }):wpAny (model prog w) A (Builtin.SmallTypes.nextOf (.ref p)) Q E s:=by
 obtain⟨b,b1,b2,b3⟩:=id hp;obtain⟨c,c1,_,n1,c3⟩:=ht;unfold Builtin.SmallTypes.nextOf
 refine Qc (wpAny_callSpecial?_slot (name:=Qa "__next__") hp.typeIs nR (wpAny_call_entry nR hp.typeIs PySem.entry_listiter_next ?_ (PySem.args_listiter_next _)))
 show wpAny _ _ (field (.ref p) 0 >>= _) _ _ s
 refine Qc (Qf b1 b3 (x:=.ref t) rfl ?_);show wpAny _ _ (if (Value.ref t == Value.none)=true then _ else _) _ _ s
 rw [Qm (show ¬((Value.ref t == Value.none)=true) from fg)];show wpAny _ _ (field (.ref p) 1 >>= _) _ _ s
 refine Qc (Qf b1 b3 (x:=.int k 0) rfl ?_);show wpAny _ _ (seqItems? (.ref t) >>= _) _ _ s
 refine Qc (wpAny_seqItems c1 c3 ?_);simp only [hy,nI]
 refine Qc (wpAny_setField b1 b3 (by simp) (Qd ⟨y,rfl,Qd (q _ ?_ (Heap.SameBut.update ..))⟩))
 exact⟨_,Heap.get?_update_self _ b1 (Obj.isFreed_of_fields (Obj.data_mapFields b3 _)),(Obj.cls_mapFields ..).trans b2,by (rw [Obj.data_mapFields b3];simp [rawInt])⟩
theorem qPv (hh:A.handled=none) (hp:s.heap.IsListIter p t k) (ht:s.heap.IsList t its) (hy:its[k]?=none)
  (q:∀h1 e,Heap.ExtBut p s.heap h1->(∃o,h1.get? e=some o/\o.cls=.type "StopIteration")->E (.ref e) { s with heap:=h1 }):wpAny (model prog w) A (Builtin.SmallTypes.nextOf (.ref p)) Q E s:=by
 obtain⟨b,b1,b2,b3⟩:=id hp;obtain⟨c,c1,_,n1,c3⟩:=ht;unfold Builtin.SmallTypes.nextOf
 refine Qc (wpAny_callSpecial?_slot (name:=Qa "__next__") hp.typeIs nR (wpAny_call_entry nR hp.typeIs PySem.entry_listiter_next ?_ (PySem.args_listiter_next _)))
 show wpAny _ _ (field (.ref p) 0 >>= _) _ _ s
 refine Qc (Qf b1 b3 (x:=.ref t) rfl ?_);show wpAny _ _ (if (Value.ref t == Value.none)=true then _ else _) _ _ s
 rw [Qm (show ¬((Value.ref t == Value.none)=true) from fg)];show wpAny _ _ (field (.ref p) 1 >>= _) _ _ s
 refine Qc (Qf b1 b3 (x:=.int k 0) rfl ?_);show wpAny _ _ (seqItems? (.ref t) >>= _) _ _ s
 refine Qc (wpAny_seqItems c1 c3 ?_);simp only [hy,nI]
 refine Qc (wpAny_rule (Qc (wpAny_setField b1 b3 (by simp) ?_)));show wpAny _ _ (newExc (.type "StopIteration") [] >>= _) _ _ _
 refine Qc ?_;simp only [newExc,newTuple];refine Qc (wpAny_newObj_type ?_ (by size_fits))
 refine Qc (m:=firstArgMember _ _) (wpAny_of_eq (a:=Value.none) (by first|rfl|(simp only [firstArgMember];rfl)) ?_);refine wpAny_newObj_type ?_ (by size_fits)
 simp only [raiseNew];refine Qc (wpAny_handled ?_);first|rw [show A.in1.handled=none from hh]|rw [hh]
 refine Qc (Qd (wpAny_throw ?_));exact q _ _ (((Heap.SameBut.update ..).extBut.push _).push _) ⟨_,Qh _ rfl,rfl⟩
def SqH:Bool->Heap->Addr->Array Value->Prop
 | true,h,t,its=>h.IsList t its
 | false,h,t,its=>h.IsTuple t its
def SqI:Bool->Heap->Addr->Addr->Nat->Prop
 | true,h,p,t,k=>h.IsListIter p t k
 | false,h,p,t,k=>h.IsTupleIter p t k
theorem SqI.extBut (x:SqI kd h a t i) (hs:Heap.ExtBut b h h') (hab:a≠b):SqI kd h' a t i:=by
 cases kd with
 | true=>exact Heap.IsListIter.extBut x hs hab
 | false=>exact Heap.IsTupleIter.extBut x hs hab
theorem SqI.at (x:SqI kd h a t i) (e:∀o,h.get? a=some o->h'.get? a=some o):SqI kd h' a t i:=by
 cases kd with
 | true=>exact Heap.IsListIter.at x e
 | false=>exact Heap.IsTupleIter.at x e
theorem SqI.rec' (x:SqI kd h a t i):∃o,h.get? a=some o/\∀v,o.data≠.cell v:=by
 cases kd with
 | true=>obtain⟨o,e,c,d⟩:=x;exact⟨o,e,λv r=>by rw [d] at r;cases r⟩
 | false=>obtain⟨o,e,c,d⟩:=x;exact⟨o,e,λv r=>by rw [d] at r;cases r⟩
theorem SqH.but (ht:SqH kd h t its) (hs:Heap.SameBut p h h') (ne:t≠p):SqH kd h' t its:=by
 cases kd with
 | true=>exact Heap.IsList.extBut ht hs.extBut ne
 | false=>exact Heap.IsTuple.extBut ht hs.extBut ne
theorem pC (hp:SqI kd s.heap p t k) (ht:SqH kd s.heap t its) (hy:its[k]?=some y)
  (q:∀h1,SqI kd h1 p t (k+1)->Heap.SameBut p s.heap h1->Q y { s with heap:=h1 }):wpAny (model prog w) A (Builtin.SmallTypes.nextOf (.ref p)) Q E s:=by
 cases kd with
 | true=>exact qNb hp ht hy q
 | false=>exact qM8 hp ht hy q
theorem o8 (hh:A.handled=none) (hp:SqI kd s.heap p t k) (ht:SqH kd s.heap t its) (hy:its[k]?=none)
  (q:∀h1 e,Heap.ExtBut p s.heap h1->(∃o,h1.get? e=some o/\o.cls=.type "StopIteration")->E (.ref e) { s with heap:=h1 }):wpAny (model prog w) A (Builtin.SmallTypes.nextOf (.ref p)) Q E s:=by
 cases kd with
 | true=>exact qPv hh hp ht hy q
 | false=>exact qPr hh hp ht hy q
structure Zp (z a b i j:Addr):Prop where
 az:a≠z
 bz:b≠z
 iz:i≠z
 jz:j≠z
 ab:a≠b
 ai:a≠i
 aj:a≠j
 bi:b≠i
 bj:b≠j
 ij:i≠j
structure Zs (kd ke:Bool) (h:Heap) (z a b i j t u:Addr) (k:Nat):Prop where
 hz:IsZip h z a b .none
 ha:IsPair h a (.ref i) (.ref j)
 hb:∃x y,IsPair h b x y
 hi:SqI kd h i t k
 hj:SqI ke h j u k
theorem qLD (D:Zp z a b i j) (S:Zs kd ke s.heap z a b i j t u k) (ht:SqH kd s.heap t xs) (hu:SqH ke s.heap u ys)
  (nt:t∉[z,a,b,i,j]) (nu:u∉[z,a,b,i,j]) (hx:xs[k]?=some x) (hy:ys[k]?=some y)
  (q:∀h',IsZip h' z a b (rawInt s.heap.objs.size)->(∃x y,IsPair h' b x y)->SqI kd h' i t (k+1)->SqI ke h' j u (k+1)->IsPair h' s.heap.objs.size x y->h'.objs.size=s.heap.objs.size+1 ->
   (∀c o,c∉[z,b,i,j]->s.heap.get? c=some o->h'.get? c=some o)->Q (some (.ref s.heap.objs.size)) { s with heap:=h' }):wpAny (model prog w) A (pyNext (.ref z)) Q E s:=by
 obtain⟨hz,ha,⟨x0,y0,hb⟩,hi,hj⟩:=S
 simp only [yaf,d5,or_false,not_or] at nt nu
 obtain⟨tz,ta,tb,ti,tj⟩:=nt
 obtain⟨uz,ua,ub,ui,uj⟩:=nu
 have hT:s.TypeIs (.ref z) "zip":=⟨_,hz,rfl⟩
 unfold pyNext
 refine Qc (wpAny_attempt (wpAny_callSpecial?_slot (name:=Qa "__next__") hT F.slot_zip_next (wpAny_call_entry F.slot_zip_next hT F.entry_zip_next ?_ (F.args_zip_next_1 _))))
 show wpAny _ _ (field (.ref z) 2 >>= _) _ _ _
 refine Qc (Qf hz rfl (x:=.bool false) rfl ?_);show wpAny _ _ (field (.ref z) 3 >>= _) _ _ _
 refine Qc (Qf hz rfl (x:=.ref a) rfl ?_);refine Qc (wpAny_seqItems ha rfl ?_)
 show wpAny _ _ (Builtin.SmallTypes.ownedTupleIsFree (.ref z) >>= _) _ _ _
 refine Qc ?_;unfold Builtin.SmallTypes.ownedTupleIsFree
 refine Qc (Qf hz rfl (x:=.none) rfl (Qd ?_));simp only [if_true]
 refine Qc (wpAny_rule ?_);refine Qc (Qf hz rfl (x:=.ref b) rfl ?_)
 refine Qc (wpAny_setField_rec hz (by simp) λh1 z1 s1=>?_)
 replace z1:IsZip h1 z a b .ellipsis:=z1
 refine Qc ?_
 simp only [List.zipIdx_cons,List.zipIdx_nil,List.forIn_nil,qJ]
 refine Qc (Qc (wpAny_onRaise ?_));show wpAny _ _ (Builtin.SmallTypes.nextOf (.ref i) >>= _) _ _ _
 refine Qc (pC (hi.extBut s1.extBut D.iz) (ht.but s1 tz) hx λh2 i2 s2=>Qd ?_)
 have b2:IsPair h2 b x0 y0:=s2.extBut _ _ D.bi (s1.extBut _ _ D.bz hb)
 refine Qc (wpAny_seqItems b2 rfl ?_)
 refine Qc (wpAny_updateSeq_pair b2 λh3 b3 s3=>?_)
 replace b3:IsPair h3 b x y0:=b3
 refine Qc (wpAny_letGo (Qd ?_));refine Qc (Qc (wpAny_onRaise ?_))
 show wpAny _ _ (Builtin.SmallTypes.nextOf (.ref j) >>= _) _ _ _
 refine Qc (pC (((hj.extBut s1.extBut D.jz).extBut s2.extBut D.ij.symm).extBut s3.extBut D.bj.symm) (((hu.but s1 uz).but s2 ui).but s3 ub) hy λh4 j4 s4=>Qd ?_)
 have b4:IsPair h4 b x y0:=s4.extBut _ _ D.bj b3
 refine Qc (wpAny_seqItems b4 rfl ?_)
 refine Qc (wpAny_updateSeq_pair b4 λh5 b5 s5=>?_)
 replace b5:IsPair h5 b x y:=b5
 refine Qc (wpAny_letGo (Qd (Qd ?_)));refine Qc (wpAny_seqItems b5 rfl ?_)
 refine Qc (wpAny_newTuple ?_)
 have hsz:h5.objs.size=s.heap.objs.size:=by rw [s5.1,s4.1,s3.1,s2.1,s1.1]
 have z5:IsZip h5 z a b .ellipsis:=s5.extBut _ _ D.bz.symm (s4.extBut _ _ D.jz.symm (s3.extBut _ _ D.bz.symm (s2.extBut _ _ D.iz.symm z1)))
 have k5:∀c o,c∉[z,b,i,j]->s.heap.get? c=some o->h5.get? c=some o:=λc o hc e=>by
  simp only [yaf,d5,or_false,not_or] at hc
  exact s5.extBut _ _ hc.2.1 (s4.extBut _ _ hc.2.2.2 (s3.extBut _ _ hc.2.1 (s2.extBut _ _ hc.2.2.1 (s1.extBut _ _ hc.1 e))))
 have i5:SqI kd h5 i t (k+1):=((i2.extBut s3.extBut D.bi.symm).extBut s4.extBut D.ij).extBut s5.extBut D.bi.symm
 have j5:SqI ke h5 j u (k+1):=j4.extBut s5.extBut D.bj.symm
 have lz:z<h5.objs.size:=Qi z5
 show wpAny _ _ (Builtin.SmallTypes.ownedTupleHandOut (.ref z) (.ref h5.objs.size) >>= _) _ _ _
 refine Qc ?_;unfold Builtin.SmallTypes.ownedTupleHandOut
 have z6:IsZip (h5.push { cls:=.type "tuple",data:=.seq #[x,y] }) z a b .ellipsis:=Qg _ z5
 refine Qc (wpAny_setField_rec z6 (by simp) λh7 z7 s7=>?_)
 replace z7:IsZip h7 z a b (rawInt h5.objs.size):=z7
 refine wpAny_setField_rec z7 (by simp) λh8 z8 s8=>?_
 replace z8:IsZip h8 z a b (rawInt h5.objs.size):=z8
 have up:∀c o,c≠z->h5.get? c=some o->h8.get? c=some o:=λc o c1 e=>s8.extBut _ _ c1 (s7.extBut _ _ c1 (Qg _ e))
 have t8:IsPair h8 h5.objs.size x y:=s8.extBut _ _ (jP lz) (s7.extBut _ _ (jP lz) (Qh _ rfl))
 have n8:h8.objs.size=h5.objs.size+1:=by rw [s8.1,s7.1,Heap.size_push]
 rw [hsz] at z8 t8 n8
 refine Qd ⟨_,rfl,Qd ?_⟩
 show Q (some (.ref h5.objs.size)) _
 rw [hsz]
 refine q h8 z8 ⟨_,_,up _ _ D.bz b5⟩ (i5.at λo e=>up _ o D.iz e) (j5.at λo e=>up _ o D.jz e) t8 n8 λc o hc e=>up c o (λr=>hc (by simp [r])) (k5 c o hc e)
theorem qLC (hh:A.handled=none) (D:Zp z a b i j) (S:Zs kd ke s.heap z a b i j t u k) (ht:SqH kd s.heap t xs) (hu:SqH ke s.heap u ys)
  (nt:t∉[z,a,b,i,j]) (nu:u∉[z,a,b,i,j]) (hend:xs[k]?=none∨ys[k]?=none)
  (q:∀h',(∀c o,c∉[z,b,i,j]->s.heap.get? c=some o->h'.get? c=some o)->Q none { s with heap:=h' }):wpAny (model prog w) A (pyNext (.ref z)) Q E s:=by
 obtain⟨hz,ha,⟨x0,y0,hb⟩,hi,hj⟩:=S
 simp only [yaf,d5,or_false,not_or] at nt nu
 obtain⟨tz,ta,tb,ti,tj⟩:=nt
 obtain⟨uz,ua,ub,ui,uj⟩:=nu
 have hT:s.TypeIs (.ref z) "zip":=⟨_,hz,rfl⟩
 unfold pyNext
 refine Qc (wpAny_attempt (wpAny_callSpecial?_slot (name:=Qa "__next__") hT F.slot_zip_next (wpAny_call_entry F.slot_zip_next hT F.entry_zip_next ?_ (F.args_zip_next_1 _))))
 show wpAny _ _ (field (.ref z) 2 >>= _) _ _ _
 refine Qc (Qf hz rfl (x:=.bool false) rfl ?_);show wpAny _ _ (field (.ref z) 3 >>= _) _ _ _
 refine Qc (Qf hz rfl (x:=.ref a) rfl ?_);refine Qc (wpAny_seqItems ha rfl ?_)
 show wpAny _ _ (Builtin.SmallTypes.ownedTupleIsFree (.ref z) >>= _) _ _ _
 refine Qc ?_;unfold Builtin.SmallTypes.ownedTupleIsFree
 refine Qc (Qf hz rfl (x:=.none) rfl (Qd ?_));simp only [if_true]
 refine Qc (wpAny_rule ?_);refine Qc (Qf hz rfl (x:=.ref b) rfl ?_)
 refine Qc (wpAny_setField_rec hz (by simp) λh1 z1 s1=>?_)
 replace z1:IsZip h1 z a b .ellipsis:=z1
 refine Qc ?_
 simp only [List.zipIdx_cons,List.zipIdx_nil,List.forIn_nil,qJ]
 refine Qc (Qc (wpAny_onRaise ?_));show wpAny _ _ (Builtin.SmallTypes.nextOf (.ref i) >>= _) _ _ _
 cases hx:xs[k]? with
 | none =>
  refine Qc (o8 hh (hi.extBut s1.extBut D.iz) (ht.but s1 tz) hx λh2 e s2 he=>?_)
  obtain⟨oe,hoe,hce⟩:=he
  have z2:IsZip h2 z a b .ellipsis:=s2 _ _ D.iz.symm z1
  have ez:e≠z:=λr=>by subst r;rw [z2] at hoe;cases hoe;simp at hce
  refine wpAny_setField_rec z2 (by simp) λh3 _ s3=>Qc (wpAny_isInstance (T:="StopIteration") (b:=true) ⟨oe,s3.extBut _ _ ez hoe,hce⟩ isSubtype_stop (Qd (q _ λc o hc r=>?_)))
  simp only [yaf,d5,or_false,not_or] at hc
  exact s3.extBut _ _ hc.1 (s2 _ _ hc.2.2.1 (s1.extBut _ _ hc.1 r))
 | some x =>
  have hy:ys[k]?=none:=by rcases hend with r|r;rw [hx] at r;cases r;exact r
  refine Qc (pC (hi.extBut s1.extBut D.iz) (ht.but s1 tz) hx λh2 i2 s2=>Qd ?_)
  have b2:IsPair h2 b x0 y0:=s2.extBut _ _ D.bi (s1.extBut _ _ D.bz hb)
  refine Qc (wpAny_seqItems b2 rfl ?_)
  refine Qc (wpAny_updateSeq_pair b2 λh3 b3 s3=>?_)
  refine Qc (wpAny_letGo (Qd ?_));refine Qc (Qc (wpAny_onRaise ?_))
  show wpAny _ _ (Builtin.SmallTypes.nextOf (.ref j) >>= _) _ _ _
  refine Qc (o8 hh (((hj.extBut s1.extBut D.jz).extBut s2.extBut D.ij.symm).extBut s3.extBut D.bj.symm) (((hu.but s1 uz).but s2 ui).but s3 ub) hy λh4 e s4 he=>?_)
  obtain⟨oe,hoe,hce⟩:=he
  have z4:IsZip h4 z a b .ellipsis:=s4 _ _ D.jz.symm (s3.extBut _ _ D.bz.symm (s2.extBut _ _ D.iz.symm z1))
  have ez:e≠z:=λr=>by subst r;rw [z4] at hoe;cases hoe;simp at hce
  refine wpAny_setField_rec z4 (by simp) λh5 _ s5=>Qc (wpAny_isInstance (T:="StopIteration") (b:=true) ⟨oe,s5.extBut _ _ ez hoe,hce⟩ isSubtype_stop (Qd (q _ λc o hc r=>?_)))
  simp only [yaf,d5,or_false,not_or] at hc
  exact s5.extBut _ _ hc.1 (s4 _ _ hc.2.2.2 (s3.extBut _ _ hc.2.1 (s2.extBut _ _ hc.2.2.1 (s1.extBut _ _ hc.1 r))))
end
end Dw
namespace Dw
open PySem PySem.Spec PyProof.Rows L2
section
variable {X:Cx}{pins:List (Addr×Obj)}{Z:L2.St}{H:Hp}{s:Shared}{h':Heap}{fp:List Addr}
theorem xW (I:Inv X pins Z H s) (hf:∀b∈fp,dX X pins H b) (k:∀b o,b∉fp->s.heap.get? b=some o->h'.get? b=some o):Inv X pins Z H { s with heap:=h',toks:=t' }:=by
 have nit:∀b u,H b=some u->b∉fp:=λb u e z=>by have:=(hf b z).1;rw [this] at e;cases e
 refine I.step (g':=s.gens) (d':=s.drawn) (ch:=fp) (λb hb=>?_) (λb o _ _ hc e _=>k b o hc e) (λb o _ _ hc e _=>⟨o.slots,k b o hc e⟩) (λ_ _ _ _ n=>n) (λb o hc e=>⟨o,k b o hc e⟩) (λ_ _ e=>e) (λ_ _ _ e=>e) (λb ps e=>⟨#[],by rw [e];simp⟩) (λm hm=>?_) (λb u e=>?_) I.bare
 ·obtain⟨f0,f1,f2,f3,f4,f5⟩:=hf b hb
  exact⟨f3,f1,f4,f5⟩
 ·obtain⟨o,es,ep,ho,r⟩:=hm
  exact⟨o,es,ep,k _ o (λz=>(hf _ z).2.1 rfl) ho,r⟩
 ·refine (I.hok b u e).stay (λc v hc q=>k c v ?_ q) (λ_ q=>q) (λ_ _ q=>q) λ_ _ _ _ q _=>q
  rcases hc with z|z
  ·rw [z];exact nit b u e
  ·exact nit c _ z
theorem xV (I:Inv X pins Z H s) (hf:∀b∈fp,dX X pins H b) (k:∀b o,b∉fp->s.heap.get? b=some o->h'.get? b=some o) (hT:s.heap.objs.size<=T) (new:ObjOk X.prog X.w (ay H T o) h' T o):Inv X pins Z (ay H T o) { s with heap:=h',toks:=t' }:=by
 have hn:H T=none:=I.hok.fresh hT
 have neT:∀b ob,s.heap.get? b=some ob->b≠T:=λb ob e=>bR (cw (Qi e) hT)
 have nit:∀b u,H b=some u->b∉fp:=λb u e z=>by have:=(hf b z).1;rw [this] at e;cases e
 refine I.step (g':=s.gens) (d':=s.drawn) (ch:=fp) (λb hb=>?_) (λb o _ _ hc e _=>k b o hc e) (λb o _ _ hc e _=>⟨o.slots,k b o hc e⟩) (λb ob _ e n=>by rw [aD (neT b ob e)];exact n) (λb o hc e=>⟨o,k b o hc e⟩)
  (λb xs e=>by rw [aD (bY e hn)];exact e) (λb ob u e=>by rw [aD (bY e hn)];exact e) (λb ps e=>⟨#[],by rw [aD (bY e hn),e];simp⟩) (λm hm=>?_) (λb u e=>?_) I.bare
 ·obtain⟨f0,f1,f2,f3,f4,f5⟩:=hf b hb
  exact⟨f3,f1,f4,f5⟩
 ·obtain⟨o,es,ep,ho,r⟩:=hm
  exact⟨o,es,ep,k _ o (λz=>(hf _ z).2.1 rfl) ho,r⟩
 ·by_cases hb:b=T
  ·subst hb;rw [cD] at e;cases e;exact new
  ·rw [aD hb] at e
   refine (I.hok b u e).stay (λc v hc q=>k c v ?_ q) (λc q=>by rw [aD (bY q hn)];exact q) (λc xs q=>by rw [aD (bY q hn)];exact q) λc ob u _ q _=>by rw [aD (bY q hn)];exact q
   rcases hc with z|z
   ·rw [z];exact nit b u e
   ·exact nit c _ z
theorem qPs (I:Inv X pins Z H s) (hf:∀b∈fp,dX X pins H b) (h:SqT X.K H a xs):a∉fp:=λz=>by
 obtain⟨f0,f1,f2,f3,f4,f5⟩:=hf a z
 rcases h with (h|⟨o,h⟩)|⟨o,its,n,hk,_⟩
 ·rw [f0] at h;cases h
 ·rw [f0] at h;cases h
 ·have hb:=I.ok.mod.kin a o hk
  rcases f3 with q|q
  ·exact I.ok.noex a o hb q
  ·exact Qn (cw (Qi (I.ok.bs a o hb).1) q) (fh _)
end
theorem qM9 {s:Shared}{fp:List Addr}(I:Inv X pins Z H s) (hf:∀b∈fp,dX X pins H b) {a:Addr}{xs:List V}(h:SqL X.K H a xs):a∉fp:=λz=>by
 obtain⟨f0,f1,f2,f3,f4,f5⟩:=hf a z
 rcases h with (h|⟨o,h⟩)|⟨o,its,n,hk,_⟩
 ·rw [f0] at h;cases h
 ·rw [f0] at h;cases h
 ·have hb:=I.ok.mod.kin a o hk
  rcases f3 with q|q
  ·exact I.ok.noex a o hb q
  ·exact Qn (cw (Qi (I.ok.bs a o hb).1) q) (fh _)
def SqK:Bool->Qb->Hp->Addr->List V->Prop
 | true,K,H,a,xs=>SqL K H a xs
 | false,K,H,a,xs=>SqT K H a xs
section
variable {X:Cx}{pins:List (Addr×Obj)}{Z:L2.St}{H:Hp}{s:Shared}{fp:List Addr}{a:Addr}{xs ys:List V}{kd:Bool}
theorem SqK.its (I:Inv X pins Z H s) (h:SqK kd X.K H a xs):∃its,Vals xs its/\SqH kd s.heap a its.toArray/\xs.length<=sizeLine:=by
 cases kd with
 | true=>obtain⟨its,r,p,z⟩:=I.list h;exact⟨its,r,p.isList,z⟩
 | false=>obtain⟨its,r,p,z⟩:=I.tuple h;exact⟨its,r,p,z⟩
theorem SqK.nfp (I:Inv X pins Z H s) (hf:∀b∈fp,dX X pins H b) (h:SqK kd X.K H a xs):a∉fp:=by
 cases kd with
 | true=>exact qM9 I hf h
 | false=>exact qPs I hf h
theorem SqK.inj (I:Inv X pins Z H s) (h:SqK kd X.K H a xs) (h':SqK kd X.K H a ys):xs=ys:=by
 cases kd with
 | true=>exact I.list_inj h h'
 | false=>exact I.tuple_inj h h'
end
def vW (kd ke:Bool) (K:Qb) (a b:Addr):It:=
 ⟨λi H=>∃xs ys x y,SqK kd K H a xs/\SqK ke K H b ys/\xs[i]?=some x/\ys[i]?=some y,
  λi H v H'=>∃T x y,H T=none/\v=.ref T/\(∀xs,SqK kd K H a xs->xs[i]?=some x)/\(∀ys,SqK ke K H b ys->ys[i]?=some y)/\H'=ay H T (.tup [x,y]),
  λi H=>∃xs ys,SqK kd K H a xs/\SqK ke K H b ys/\(xs.length<=i∨ys.length<=i)⟩
theorem qJl {w:World}{K:Qb}{es:List Expr}{kk:Nat}{pos:Pos}{z p q i j:Addr}(a b:Addr) (D:Zp z p q i j):Turn P w K (.Tuple es kk pos) (vW kd ke K a b) [z,p,q,i,j] z (λk h=>Zs kd ke h z p q i j a b k) where
 mem:=by simp
 obj:=λk h S c hc=>by
  obtain⟨hz,hp,⟨x,y,hq⟩,hi,hj⟩:=S
  simp only [yaf,d5,or_false] at hc
  rcases hc with rfl|rfl|rfl|rfl|rfl
  ·exact⟨_,hz,λv r=>by have r':Data.fields _=Data.cell v:=r;cases r'⟩
  ·exact⟨_,hp,λv r=>by have r':Data.seq _ _=Data.cell v:=r;cases r'⟩
  ·exact⟨_,hq,λv r=>by have r':Data.seq _ _=Data.cell v:=r;cases r'⟩
  ·exact hi.rec'
  ·exact hj.rec'
 keep:=λk h h' S kp=>by
  obtain⟨hz,hp,⟨x,y,hq⟩,hi,hj⟩:=S
  exact⟨kp z (by simp) _ hz,kp p (by simp) _ hp,⟨x,y,kp q (by simp) _ hq⟩,hi.at λo e=>kp i (by simp) o e,hj.at λo e=>kp j (by simp) o e⟩
 item:=by
  intro X hP hw hK hc k pins s Z H E I hf S hg
  subst hP hw hK
  obtain⟨xs,ys,x,y,ha,hb,hx,hy⟩:=hg
  obtain⟨i1,r1,p1,z1⟩:=ha.its I
  obtain⟨i2,r2,p2,z2⟩:=hb.its I
  obtain⟨u,hu,ru⟩:=r1.get hx
  obtain⟨v,hv,rv⟩:=r2.get hy
  have na:=ha.nfp I hf
  have nb:=hb.nfp I hf
  refine qLD D S p1 p2 na nb (x:=u) (y:=v) (by simpa using hu) (by simpa using hv) λh' e1 e2 e3 e4 e5 e6 kp=>?_
  refine⟨_,rfl,wpAny_letOwnedTupleGo_zip e1 λh2 f1 f2=>?_⟩
  have ltz:z<s.heap.objs.size:=Qi S.hz
  have nT:s.heap.objs.size≠z:=jP ltz
  have kp2:∀c o,c∉[z,p,q,i,j]->s.heap.get? c=some o->h2.get? c=some o:=λc o hc e=>by
   simp only [yaf,d5,or_false,not_or] at hc
   exact f2.extBut _ _ hc.1 (kp c o (by simp [hc]) e)
  have hpp:s.heap.get? p=some _:=S.ha
  have I2:=xV (t':=s.toks) (T:=s.heap.objs.size) (o:=.tup [x,y]) I hf kp2 (aK _) ⟨by show 2<=sizeLine;decide,[u,v],.cons ru (.cons rv .nil),⟨_,f2.extBut _ _ nT e5,rfl,_,rfl⟩⟩
  have hn:H s.heap.objs.size=none:=I.hok.fresh (aK _)
  obtain⟨x1,y1,e2⟩:=e2
  refine⟨.ref s.heap.objs.size,ay H s.heap.objs.size (.tup [x,y]),I2,rfl,⟨_,x,y,hn,rfl,λzs hz=>by rw [SqK.inj I hz ha];exact hx,λzs hz=>by rw [SqK.inj I hz hb];exact hy,rfl⟩,
   ⟨f1,f2.extBut _ _ D.az (kp _ _ (by simp [D.az,D.ab,D.ai,D.aj]) S.ha),⟨x1,y1,f2.extBut _ _ D.bz e2⟩,e3.extBut f2.extBut D.iz,e4.extBut f2.extBut D.jz⟩,λc hc=>?_⟩
  have hlt:c<s.heap.objs.size:=by
   obtain⟨hz,hp,⟨x,y,hq⟩,hi,hj⟩:=S
   simp only [yaf,d5,or_false] at hc
   rcases hc with rfl|rfl|rfl|rfl|rfl
   ·exact Qi hz
   ·exact Qi hp
   ·exact Qi hq
   ·obtain⟨o,e,_⟩:=hi.rec';exact Qi e
   ·obtain⟨o,e,_⟩:=hj.rec';exact Qi e
  rw [aD (bR hlt)]
  exact (hf c hc).1
 done:=by
  intro X hP hw hK hc k pins s Z H E I hf S hg
  subst hP hw hK
  obtain⟨xs,ys,ha,hb,he⟩:=hg
  obtain⟨i1,r1,p1,z1⟩:=ha.its I
  obtain⟨i2,r2,p2,z2⟩:=hb.its I
  have l1:=r1.length
  have l2:=r2.length
  refine qLC (I.ok.hd hc) D S p1 p2 (ha.nfp I hf) (hb.nfp I hf) (by
   rcases he with r|r
   ·exact .inl (by simp;omega)
   ·exact .inr (by simp;omega)) λh' kp=>⟨rfl,xW (t':=s.toks) I hf λc o hc e=>kp c o (by simp at hc ⊢;simp [hc]) e⟩
 self:=λ_ _ _ _ _ S h=>wpAny_pyIter_zip S.hz h
def SqF:Bool->Qb->Hp->Fz->Addr->List V->Prop
 | true,K,H,F,a,xs=>LsR K H F a xs
 | false,K,H,_,a,xs=>SqT K H a xs
theorem SqF.keep {K:Qb}{H H':Hp}{F F':Fz}{a:Addr}{xs:List V}(h:SqF kd K H F a xs) (k:Keep H F H' F'):SqK kd K H' a xs:=by
 cases kd with
 | true=>exact LsR.sq (h.elim (λz=>.inl (k.lsts _ _ z.1 z.2)) .inr)
 | false=>exact h.elim (λz=>.inl (k.tups _ _ z)) .inr
theorem pj {K:Qb}{H:Hp}{F:Fz}{a b:Addr}{ds es:List D}{vs ws:List V}(ha:SqF kd K H F a vs) (hb:SqF ke K H F b ws) (ra:RDs K H F ds vs) (rb:RDs K H F es ws):ItOk K (vW kd ke K a b) H F (bS ds es):=by
 intro H' F' k dom
 have ha':SqK kd K H' a vs:=ha.keep k
 have hb':SqK ke K H' b ws:=hb.keep k
 have ra':=RDs.mono k ra
 have rb':=RDs.mono k rb
 have la:=RDs.length ra'
 have lb:=RDs.length rb'
 refine⟨λi d hd=>?_,⟨vs,ws,ha',hb',?_⟩⟩
 ·unfold bS at hd
  rw [List.getElem?_zipWith] at hd
  cases h1:ds[i]? with
  | none=>simp [h1] at hd
  | some d1 =>
   cases h2:es[i]? with
   | none=>simp [h1,h2] at hd
   | some d2 =>
    simp [h1,h2] at hd
    subst hd
    obtain⟨v,e1,e2⟩:=RDs.get ra' h1
    obtain⟨w,e3,e4⟩:=RDs.get rb' h2
    refine⟨⟨vs,ws,v,w,ha',hb',e1,e3⟩,λx H3 y=>?_⟩
    obtain⟨T,x1,y1,hT,rfl,q1,q2,rfl⟩:=y
    have:=q1 vs ha'
    rw [e1] at this
    cases this
    have:=q2 ws hb'
    rw [e3] at this
    cases this
    obtain⟨g,rr⟩:=kS (ds:=[d1,d2]) dom hT ⟨v,[w],rfl,e2,w,[],rfl,e4,rfl⟩
    exact⟨F',g,rr⟩
 ·unfold bS
  rw [lA]
  omega
section
variable {prog:Program}{w:World}{A:Around}{E:Value->Shared->Prop}{s:Shared}
noncomputable def B1:Bool->String
 | true=>"list_iterator"
 | false=>"tuple_iterator"
abbrev nh (kd:Bool) (h:Heap) (a:Addr):Heap:=h.push { cls:=.type (B1 kd),data:=.fields #[.ref a,.int 0 0] }
abbrev ng (kd ke:Bool) (h:Heap) (a b:Addr):Heap:=(nh kd h a).push { cls:=.type (B1 ke),data:=.fields #[.ref b,.int 0 0] }
abbrev m9 (kd ke:Bool) (h:Heap) (a b:Addr):Heap:=(ng kd ke h a b).push { cls:=.type "tuple",data:=.seq #[.ref h.objs.size,.ref (nh kd h a).objs.size] }
abbrev mZ (kd ke:Bool) (h:Heap) (a b:Addr):Heap:=(m9 kd ke h a b).push { cls:=.type "tuple",data:=.seq #[.none,.none] }
abbrev jK (kd ke:Bool) (h:Heap) (a b:Addr):Heap:=(mZ kd ke h a b).push { cls:=.type "zip",data:=.fields #[.none,.bool false,.bool false,.ref (ng kd ke h a b).objs.size,.ref (m9 kd ke h a b).objs.size] }
theorem qJg (kd ke:Bool) (a b:Addr) (xs ys:Array Value):Meets (Builtin.«zip.__new__» ⟨[.type "zip",.ref a,.ref b],[]⟩) (λ_ R s=>SqH kd s.heap a xs/\SqH ke s.heap b ys/\R (.ok (.ret (.ref (mZ kd ke s.heap a b).objs.size))) { s with heap:=jK kd ke s.heap a b }):=
 .of_wp λprog w A R s h=>by
  obtain⟨hp,g,d,tk,os⟩:=s;obtain⟨h1,h2,h⟩:=h;have hsub:=sub_zip
  cases kd with
  | false =>
   cases ke with
   | false =>
    have H1:Heap.IsTuple (Shared.heap ⟨hp,g,d,tk,os⟩) a xs:=h1
    have H2:Heap.IsTuple (Shared.heap ⟨hp.push { cls:=.type "tuple_iterator",data:=.fields #[.ref a,.int 0 0] },g,d,tk,os⟩) b ys:=Heap.IsTuple.push h2 _
    wp_walk using wpAny_pyIter_tuple H1,wpAny_pyIter_tuple H2
    exact⟨_,rfl,h⟩
   | true =>
    have H1:Heap.IsTuple (Shared.heap ⟨hp,g,d,tk,os⟩) a xs:=h1
    have H2:Heap.IsList (Shared.heap ⟨hp.push { cls:=.type "tuple_iterator",data:=.fields #[.ref a,.int 0 0] },g,d,tk,os⟩) b ys:=Heap.IsList.push h2 _
    wp_walk using wpAny_pyIter_tuple H1,wpAny_pyIter_list H2
    exact⟨_,rfl,h⟩
  | true =>
   cases ke with
   | false =>
    have H1:Heap.IsList (Shared.heap ⟨hp,g,d,tk,os⟩) a xs:=h1
    have H2:Heap.IsTuple (Shared.heap ⟨hp.push { cls:=.type "list_iterator",data:=.fields #[.ref a,.int 0 0] },g,d,tk,os⟩) b ys:=Heap.IsTuple.push h2 _
    wp_walk using wpAny_pyIter_list H1,wpAny_pyIter_tuple H2
    exact⟨_,rfl,h⟩
   | true =>
    have H1:Heap.IsList (Shared.heap ⟨hp,g,d,tk,os⟩) a xs:=h1
    have H2:Heap.IsList (Shared.heap ⟨hp.push { cls:=.type "list_iterator",data:=.fields #[.ref a,.int 0 0] },g,d,tk,os⟩) b ys:=Heap.IsList.push h2 _
    wp_walk using wpAny_pyIter_list H1,wpAny_pyIter_list H2
    exact⟨_,rfl,h⟩
theorem qJh (ha:SqH kd s.heap a xs) (hb:SqH ke s.heap b ys)
  (h:∀h',Zs kd ke h' (s.heap.objs.size+4) (s.heap.objs.size+2) (s.heap.objs.size+3) s.heap.objs.size (s.heap.objs.size+1) a b 0->(∀c o,s.heap.get? c=some o->h'.get? c=some o)->Q (.ref (s.heap.objs.size+4)) { s with heap:=h' }):wpAny (model prog w) A (call (.type "zip") [.ref a,.ref b]) Q E s:=by
 refine callType_new F.called_zip (by decide) (F.typeCall_zip_2 _ _) (F.newCall_zip_2 _ _) (λobj=>F.args_object_init_3 obj _ _) F.entry_zip_new (qJg kd ke a b xs ys) ⟨ha,hb,?_⟩
 have z1:(nh kd s.heap a).objs.size=s.heap.objs.size+1:=Heap.size_push ..
 have z2:(ng kd ke s.heap a b).objs.size=s.heap.objs.size+2:=by rw [Heap.size_push,z1]
 have z3:(m9 kd ke s.heap a b).objs.size=s.heap.objs.size+3:=by rw [Heap.size_push,z2]
 have z4:(mZ kd ke s.heap a b).objs.size=s.heap.objs.size+4:=by rw [Heap.size_push,z3]
 have g5:(jK kd ke s.heap a b).get? (mZ kd ke s.heap a b).objs.size=some _:=Qh _ rfl
 have g4:(jK kd ke s.heap a b).get? (m9 kd ke s.heap a b).objs.size=some _:=Qg _ (Qh _ rfl)
 have g3:(jK kd ke s.heap a b).get? (ng kd ke s.heap a b).objs.size=some _:=Qg _ (Qg _ (Qh _ rfl))
 have g2:(jK kd ke s.heap a b).get? (nh kd s.heap a).objs.size=some _:=Qg _ (Qg _ (Qg _ (Qh _ rfl)))
 have g1:(jK kd ke s.heap a b).get? s.heap.objs.size=some _:=Qg _ (Qg _ (Qg _ (Qg _ (Qh _ rfl))))
 show _/\_
 rw [z2,z3,z4] at g5;rw [z1,z2] at g3;rw [z3] at g4;rw [z1] at g2;rw [z4]
 exact⟨⟨_,g5,rfl⟩,h _ ⟨g5,g3,⟨_,_,g4⟩,(by cases kd with|true=>exact⟨_,g1,rfl,rfl⟩|false=>exact⟨_,g1,rfl,rfl⟩),(by cases ke with|true=>exact⟨_,g2,rfl,rfl⟩|false=>exact⟨_,g2,rfl,rfl⟩)⟩ λc o x=>Qg _ (Qg _ (Qg _ (Qg _ (Qg _ x))))⟩
end
theorem qJf (n:Nat):Zp (n+4) (n+2) (n+3) n (n+1):=by
 constructor<;>(intro h;have h':(_:Nat)=_:=h;omega)
section
variable {X:Cx}
theorem qKu:Qo (Qa "zip")=some (.type "zip"):=by decide +kernel
def qT8 (K:Qb) (ta:TA):TI:=fun Z H R=>ta Z H λvs H1=>∃(kd ke:Bool) (a b:Addr) (xs ys:List V),vs=[.ref a,.ref b]/\SqK kd K H1 a xs/\SqK ke K H1 b ys/\(xs.length<=sizeLine->R (vW kd ke K a b) H1)
theorem qOY {kk:Nat}{tp:Pos}{x:Str}{a b:Expr}{ta:TA}{p pos:Pos}(hx:x=Qa "zip") (hg:Gl X x) (hm:X.mg x=none) (ha:PA X [a,b] ta) (hs:starEach [a,b] X.env=[(false,eval a X.env),(false,eval b X.env)]) (hs2:starEach [b] X.env=[(false,eval b X.env)]) :
  PI X (.Tuple es kk tp) (.Call (.Name x p) [a,b] [] pos) (qT8 X.K ta):=by
 subst hx
 intro pins s Z H R I h
 refine Call_ (gz I hg hm qKu (ie (aB (ha pos pins s Z H _ I h) λus s1 ⟨vs,H1,I1,r1,q1⟩=>?_) (by rw [hs,hs2]) (by rw [hs2];rfl)))
 obtain⟨kd,ke,a1,b1,xs,ys,rfl,hx,hy,q⟩:=q1
 cases r1 with
 | cons ra rr =>
  cases rr with
  | cons rb rr =>
   cases rr
   cases ra
   cases rb
   obtain⟨t1,v1,p1,zl⟩:=hx.its I1
   obtain⟨t2,v2,p2,_⟩:=hy.its I1
   refine qJh p1 p2 λh' S kp=>wpAny_pyIter_zip S.hz ?_
   have I2:Inv X pins Z H1 { s1 with heap:=h' }:=I1.kept (t':=s1.toks) kp
   refine⟨_,[s1.heap.objs.size+4,s1.heap.objs.size+2,s1.heap.objs.size+3,s1.heap.objs.size,s1.heap.objs.size+1],_,_,H1,rfl,I2,qJl a1 b1 (qJf _),S,λc hc=>?_,q zl⟩
   have hge:s1.heap.objs.size<=c:=by
    simp only [yaf,d5,or_false] at hc
    rcases hc with rfl|rfl|rfl|rfl|rfl<;>omega
   exact I1.fpOk hge (I1.hok.fresh hge)
end
end Dw
namespace Dw
open PySem PySem.Spec PyProof.Rows L2
section
open AutoSeq1 (wpAny_loadPart')
theorem qGN (l:Addr) (items:Array Value) (n:Nat) (dct:Option Addr) (sl:Array (Option Value)) :
  Meets (Builtin.«enumerate.__new__» ⟨[.type "enumerate",.ref l],[]⟩) (λ_ R s=>s.heap.get? l=some { cls:=.type "tuple",dict:=dct,data:=.seq items n,slots:=sl } /\
   R (.ok (.ret (.ref (s.heap.push { cls:=.type "tuple_iterator",data:=.fields #[.ref l,.int 0 0] }).objs.size)))
    { s with heap:=(s.heap.push { cls:=.type "tuple_iterator",data:=.fields #[.ref l,.int 0 0] }).push { cls:=.type "enumerate",data:=.fields #[.none,.bool false,.ref s.heap.objs.size,rawInt 0,.none,.none] } }):=
 .of_wp λprog w A R s h=>by
  obtain⟨hp,g,d,tk,os⟩:=s;obtain⟨hl,h⟩:=h
  have hsub:=sub_enumerate
  have hL:Heap.IsTuple (Shared.heap ⟨hp,g,d,tk,os⟩) l items:=⟨_,hl,rfl,n,rfl⟩
  wp_walk using wpAny_loadPart' hl
  refine wpAny_stack_any λst=>Qd ?_
  split
  ·rename_i c _ _ _ _ _
   cases (c == Value.type "enumerate")
   ·wp_walk using wpAny_loadPart' hl,wpAny_pyIter_tuple hL
    exact⟨_,rfl,h⟩
   ·wp_walk using wpAny_loadPart' hl,wpAny_pyIter_tuple hL
    exact⟨_,rfl,h⟩
  ·wp_walk using wpAny_loadPart' hl,wpAny_pyIter_tuple hL
   exact⟨_,rfl,h⟩
end
structure Es (kd:Bool) (h:Heap) (e i t:Addr) (k:Nat):Prop where
 he:∃old,IsEnum h e i ((k:Nat):Int) old
 hi:SqI kd h i t k
section
variable {prog:Program}{w:World}{A:Around}{E:Value->Shared->Prop}{s:Shared}
theorem SqH.at (x:SqH kd h t its) (e:∀o,h.get? t=some o->h'.get? t=some o):SqH kd h' t its:=by
 cases kd with
 | true=>obtain⟨o,a,b⟩:=x;exact⟨o,e _ a,b⟩
 | false=>obtain⟨o,a,b⟩:=x;exact⟨o,e _ a,b⟩
theorem qKn (hh:A.handled=none) (i t:Addr) (ne:t≠i) (its:Array Value):Draws prog w A i [i,t] its.size (λk x=>its[k]?=some x) (λk h=>SqI kd h i t k/\SqH kd h t its) where
 live:=λk h st=>by obtain⟨o,e,_⟩:=st.1.rec';exact⟨o,e⟩
 frame:=λk h h' st hk=>⟨st.1.at λo e=>hk i (by simp) o e,st.2.at λo e=>hk t (by simp) o e⟩
 item:=λk s Q E hk st q=>pC st.1 st.2 (y:=its[k]) (by simp [hk]) λh1 i1 s1=>q its[k] h1 s.toks (by simp [hk]) ⟨i1,st.2.but s1 ne⟩ s1
 done:=λs Q E st q=>o8 hh st.1 st.2 (by simp) q
theorem qIy (ha:SqH kd s.heap a xs)
  (h:∀h',Es kd h' (s.heap.objs.size+1) s.heap.objs.size a 0->(∀c o,s.heap.get? c=some o->h'.get? c=some o)->Q (.ref (s.heap.objs.size+1)) { s with heap:=h' }):wpAny (model prog w) A (call (.type "enumerate") [.ref a]) Q E s:=by
 cases kd with
 | true=>exact call_enumerate_list ha λh' e1 e2 _ k=>h h' ⟨⟨_,e1⟩,e2⟩ k
 | false =>
  obtain⟨⟨c,dct,dt,sl⟩,hl,hc,n,hd⟩:=ha
  replace hc:c=.type "tuple":=hc
  replace hd:dt=.seq xs n:=hd
  subst hc hd
  refine callType_new F.called_enumerate (by decide) (F.typeCall_enumerate_1 _) (F.newCall_enumerate_1 _) (λobj=>F.args_object_init_2 obj _) F.entry_enumerate_new (qGN a xs n dct sl) ⟨hl,?_⟩
  have hz:(s.heap.push { cls:=.type "tuple_iterator",data:=.fields #[.ref a,.int 0 0] }).objs.size=s.heap.objs.size+1:=Heap.size_push ..
  show _/\_
  rw [hz]
  have he:IsEnum ((s.heap.push { cls:=.type "tuple_iterator",data:=.fields #[.ref a,.int 0 0] }).push
    { cls:=.type "enumerate",data:=.fields #[.none,.bool false,.ref s.heap.objs.size,rawInt 0,.none,.none] }) (s.heap.objs.size+1) s.heap.objs.size 0 .none:=by
   have:=Qh (s.heap.push { cls:=.type "tuple_iterator",data:=.fields #[.ref a,.int 0 0] })
    (o:={ cls:=.type "enumerate",data:=.fields #[.none,.bool false,.ref s.heap.objs.size,rawInt 0,.none,.none] }) rfl
   rw [hz] at this;exact this
  exact⟨⟨_,he,rfl⟩,h _ ⟨⟨_,he⟩,⟨_,Qg _ (Qh _ rfl),rfl,rfl⟩⟩ λb o x=>Qg _ (Qg _ x)⟩
end
def vY (kd:Bool) (K:Qb) (a:Addr):It:=
 ⟨λi H=>∃xs x,SqK kd K H a xs/\xs[i]?=some x,
  λi H v H'=>∃T x,H T=none/\v=.ref T/\(∀xs,SqK kd K H a xs->xs[i]?=some x)/\H'=ay H T (.tup [.int ((i:Nat):Int),x]),
  λi H=>∃xs,SqK kd K H a xs/\xs.length<=i⟩
theorem qJm {w:World}{K:Qb}{es:List Expr}{kk:Nat}{pos:Pos}{e i:Addr}(a:Addr) (ne:e≠i):Turn P w K (.Tuple es kk pos) (vY kd K a) [e,i] e (λk h=>Es kd h e i a k) where
 mem:=by simp
 obj:=λk h S c hc=>by
  obtain⟨⟨old,he⟩,hi⟩:=S
  simp only [yaf,d5,or_false] at hc
  rcases hc with rfl|rfl
  ·exact⟨_,he,λv r=>by have r':Data.fields _=Data.cell v:=r;cases r'⟩
  ·exact hi.rec'
 keep:=λk h h' S kp=>by
  obtain⟨⟨old,he⟩,hi⟩:=S
  exact⟨⟨old,kp e (by simp) _ he⟩,hi.at λo e=>kp i (by simp) o e⟩
 item:=by
  intro X hP hw hK hc k pins s Z H E I hf S hg
  subst hP hw hK
  obtain⟨xs,x,ha,hx⟩:=hg
  obtain⟨i1,r1,p1,z1⟩:=ha.its I
  obtain⟨u,hu,ru⟩:=r1.get hx
  have na:=ha.nfp I hf
  simp only [yaf,d5,or_false,not_or] at na
  obtain⟨⟨old,he⟩,hi⟩:=S
  have hlt:k<i1.toArray.size:=by
   have:=(yal.mp hu).1
   simpa using this
  refine wpAny_pyNext_enum_itemD (qKn (A:=X.A.in1) (I.ok.hd hc) i a na.2 i1.toArray) he ⟨hi,p1⟩ hlt ne (by simp only [yaf,d5,or_false,not_or];exact⟨ne,Ne.symm na.1⟩) λx1 h' tk hPx ho hs' hT hsz kp=>?_
  have ex:x1=u:=by
   have h2:i1[k]?=some x1:=by simpa using hPx
   rw [hu] at h2;exact (fB h2).symm
  subst ex
  refine⟨_,rfl,wpAny_letOwnedTupleGo_enum ho λh2 f1 f2=>?_⟩
  have lte:e<s.heap.objs.size:=Qi he
  have nT:s.heap.objs.size≠e:=jP lte
  have kp2:∀c o,c∉[e,i]->s.heap.get? c=some o->h2.get? c=some o:=λc o hc q=>by
   simp only [yaf,d5,or_false,not_or] at hc
   exact f2.extBut _ _ hc.1 (kp c o hc.1 hc.2 q)
  have I2:=xV (t':=tk+1) (T:=s.heap.objs.size) (o:=.tup [.int ((k:Nat):Int),x]) I hf kp2 (aK _) ⟨by show 2<=sizeLine;decide,[.int k tk,x1],.cons ⟨tk,rfl⟩ (.cons ru .nil),⟨_,f2.extBut _ _ nT hT,rfl,_,rfl⟩⟩
  have hn:H s.heap.objs.size=none:=I.hok.fresh (aK _)
  refine⟨.ref s.heap.objs.size,ay H s.heap.objs.size (.tup [.int ((k:Nat):Int),x]),I2,rfl,⟨_,x,hn,rfl,λzs hz=>by rw [SqK.inj I hz ha];exact hx,rfl⟩,⟨⟨x1,by simpa using f1⟩,hs'.1.extBut f2.extBut (Ne.symm ne)⟩,λc hc=>?_⟩
  have hlt:c<s.heap.objs.size:=by
   simp only [yaf,d5,or_false] at hc
   rcases hc with rfl|rfl
   ·exact lte
   ·obtain⟨o,q,_⟩:=hi.rec';exact Qi q
  rw [aD (bR hlt)]
  exact (hf c hc).1
 done:=by
  intro X hP hw hK hc k pins s Z H E I hf S hg
  subst hP hw hK
  obtain⟨xs,ha,hl⟩:=hg
  obtain⟨i1,r1,p1,z1⟩:=ha.its I
  have l1:=r1.length
  have na:=ha.nfp I hf
  simp only [yaf,d5,or_false,not_or] at na
  obtain⟨⟨old,he⟩,hi⟩:=S
  have hT:s.TypeIs (.ref e) "enumerate":=⟨_,he,rfl⟩
  unfold pyNext
  refine Qc (wpAny_attempt (wpAny_callSpecial?_slot (name:=Qa "__next__") hT F.slot_enumerate_next
   (wpAny_call_entry F.slot_enumerate_next hT F.entry_enumerate_next ?_ (F.args_enumerate_next_1 _))))
  show wpAny _ _ (field (.ref e) 2 >>= _) _ _ _
  refine Qc (Qf he rfl (x:=.ref i) rfl ?_)
  refine Qc (o8 (I.ok.hd hc) hi p1 (by simp;omega) λh' x he' hx'=>?_)
  obtain⟨o,ho,dz⟩:=hx'
  refine Qc (wpAny_isInstance (T:="StopIteration") (b:=true) ⟨o,ho,dz⟩ isSubtype_stop ?_)
  exact Qd ⟨rfl,xW (t':=s.toks) I hf λc o hc q=>he' c o (λr=>hc (by simp [r])) q⟩
 self:=λ_ _ _ _ _ S h=>by obtain⟨⟨old,he⟩,_⟩:=S;exact wpAny_pyIter_enum he h
theorem yv {K:Qb}{H:Hp}{F:Fz}{a:Addr}{ds:List D}{vs:List V}(ha:SqF kd K H F a vs) (ra:RDs K H F ds vs):ItOk K (vY kd K a) H F (cY 0 ds):=by
 intro H' F' k dom
 have ha':SqK kd K H' a vs:=ha.keep k
 have ra':=RDs.mono k ra
 have la:=RDs.length ra'
 refine⟨λi d hd=>?_,⟨vs,ha',?_⟩⟩
 ·rw [qIz] at hd
  cases h1:ds[i]? with
  | none=>simp [h1] at hd
  | some d1 =>
   simp only [h1,ll,qR,Nat.zero_add] at hd
   subst hd
   obtain⟨v,e1,e2⟩:=RDs.get ra' h1
   refine⟨⟨vs,v,ha',e1⟩,λx H3 y=>?_⟩
   obtain⟨T,x1,hT,rfl,q1,rfl⟩:=y
   have:=q1 vs ha'
   rw [e1] at this
   cases this
   obtain⟨g,rr⟩:=kS (ds:=[.int ((i:Nat):Int),d1]) dom hT ⟨.int ((i:Nat):Int),[v],rfl,rfl,v,[],rfl,e2,rfl⟩
   exact⟨F',g,rr⟩
 ·rw [tU]
  omega
section
variable {X:Cx}
theorem qKv:Qo (Qa "enumerate")=some (.type "enumerate"):=by decide +kernel
def qUb (K:Qb) (ta:TA):TI:=fun Z H R=>ta Z H λvs H1=>∃(kd:Bool) (a:Addr) (xs:List V),vs=[.ref a]/\SqK kd K H1 a xs/\(xs.length<=sizeLine->R (vY kd K a) H1)
theorem qO0 {kk:Nat}{tp:Pos}{x:Str}{a:Expr}{ta:TA}{p pos:Pos}(hx:x=Qa "enumerate") (hg:Gl X x) (hm:X.mg x=none) (ha:PA X [a] ta) (hs:starEach [a] X.env=[(false,eval a X.env)]) :
  PI X (.Tuple es kk tp) (.Call (.Name x p) [a] [] pos) (qUb X.K ta):=by
 subst hx
 intro pins s Z H R I h
 refine Call_ (gz I hg hm qKv (ie (aB (ha pos pins s Z H _ I h) λus s1 ⟨vs,H1,I1,r1,q1⟩=>?_) (by rw [hs];rfl) (by rfl)))
 obtain⟨kd,a1,xs,rfl,hx,q⟩:=q1
 cases r1 with
 | cons ra rr =>
  cases rr
  cases ra
  obtain⟨t1,v1,p1,zl⟩:=hx.its I1
  refine qIy p1 λh' S kp=>?_
  obtain⟨⟨old,he⟩,hi⟩:=S
  refine wpAny_pyIter_enum he ?_
  have I2:Inv X pins Z H1 { s1 with heap:=h' }:=I1.kept (t':=s1.toks) kp
  refine⟨_,[s1.heap.objs.size+1,s1.heap.objs.size],_,_,H1,rfl,I2,qJm a1 (Nat.succ_ne_self _),⟨⟨old,he⟩,hi⟩,λc hc=>?_,q zl⟩
  have hge:s1.heap.objs.size<=c:=by
   simp only [yaf,d5,or_false] at hc
   rcases hc with rfl|rfl<;>omega
  exact I1.fpOk hge (I1.hok.fresh hge)
end
end Dw
namespace Dw
open PySem PySem.Spec PyProof.Rows L2
noncomputable def ee (env:Env):List (Str×NameKind)->List (Str×Addr)->List (Str×Addr)
 | [],acc=>acc
 | (n,k)::r,acc=>ee env r (if k == .free then (n,(env.cells.lookup n).getD 0)::acc else acc)
theorem zj (env:Env):∀(l:List (Str×NameKind)) (acc:List (Str×Addr)),(∀y∈l,y.2=.free->∃c,env.cells.lookup y.1=some c) ->
  (do
   let mut cs:=acc
   for (name,kind) in l do
    if kind == .free then cs:=(name,<-cellOf env name)::cs
   return cs:Sem (List (Str×Addr)))=pure (ee env l acc)
 | [],acc,_=>rfl
 | (n,k)::r,acc,h=>by
  have ih:=λa=>zj env r a λy hy=>h y (dq _ hy)
  simp only [qJ]
  cases hk:k == NameKind.free with
  | true =>
   obtain⟨c,hc⟩:=h (n,k) dF (by simpa using hk)
   have e:cellOf env n=pure c:=by unfold cellOf;rw [hc]
   simp only [if_true]
   rw [e]
   have:=ih ((n,c)::acc)
   simp only [ee,hk,if_true,hc,Option.getD_some]
   exact this
  | false =>
   simp only [ee,hk,ly,if_false]
   exact ih acc
theorem zk (sc:Scope) (env:Env) (h:∀y∈sc.names,y.2=.free->∃c,env.cells.lookup y.1=some c):closureFor sc env=pure (ee env sc.names []):=zj env sc.names [] h
theorem sT (env:Env):∀(l:List (Str×NameKind)) (acc:List (Str×Addr)) (x:Str) (c:Addr),(ee env l acc).lookup x=some c->acc.lookup x=some c∨((x,NameKind.free)∈l/\c=(env.cells.lookup x).getD 0)
 | [],acc,x,c,h=>.inl h
 | (n,k)::r,acc,x,c,h=>by
  rcases sT env r _ x c h with q|q
  ·split at q
   ·rename_i hk
    rw [gf] at q
    split at q
    ·rename_i hx
     have e1:x=n:=by simpa using hx
     have e2:k=.free:=by simpa using hk
     subst e1 e2
     cases q
     exact .inr ⟨dF,rfl⟩
    ·exact .inl q
   ·exact .inl q
  ·exact .inr ⟨dq _ q.1,q.2⟩
theorem ml (env:Env):∀(l:List (Str×NameKind)) (acc:List (Str×Addr)) (x:Str),((x,NameKind.free)∈l∨(acc.lookup x).isSome=true)->∃c,(ee env l acc).lookup x=some c
 | [],acc,x,h=>by
  rcases h with h|h
  ·cases h
  ·exact Option.isSome_iff_exists.mp h
 | (n,k)::r,acc,x,h=>by
  refine ml env r _ x ?_
  rcases h with h|h
  ·rcases yaf.mp h with e|e
   ·cases e
    exact .inr (by simp)
   ·exact .inl e
  ·refine .inr ?_
   split
   ·rw [gf]
    split
    ·rfl
    ·exact h
   ·exact h
theorem je {sc:Scope}{x:Str}{c:Addr}(h:∀y∈sc.names,y.2=.free->∃c,env.cells.lookup y.1=some c) (e:(ee env sc.names []).lookup x=some c):env.cells.lookup x=some c:=by
 rcases sT env _ _ x c e with q|⟨q1,q2⟩
 ·cases q
 ·obtain⟨c',hc⟩:=h _ q1 rfl
  have hc':env.cells.lookup x=some c':=hc
  rw [q2,hc']
  rfl
theorem Bx {env:Env}:∀{names:List (Str×NameKind)}{x:Str},
  (names.map λ(n,k)=>if (k == NameKind.free&&env.scope.kind == .function&&env.kindOf n == some .cell) then (n,NameKind.cell) else (n,k)).lookup x =
   (names.lookup x).map λk=>if (k == NameKind.free&&env.scope.kind == .function&&env.kindOf x == some .cell) then NameKind.cell else k
 | [],x=>rfl
 | (n,k)::r,x=>by
  have ih:=@Bx env r x
  show List.lookup x ((if (k == NameKind.free&&env.scope.kind == .function&&env.kindOf n == some .cell)=true then (n,NameKind.cell) else (n,k))::_)=_
  cases hx:x == n with
  | true =>
   have e:x=n:=by simpa using hx
   subst e
   cases hc:(k == NameKind.free&&env.scope.kind == .function&&env.kindOf x == some .cell)<;>simp only [gf,hc,beq_self_eq_true,if_true,ly,if_false,ll]
  | false =>
   cases hc:(k == NameKind.free&&env.scope.kind == .function&&env.kindOf n == some .cell)<;>(simp only [gf,hx,if_true,ly,if_false];exact ih)
theorem pE (sc:Scope) (env:Env) (x:Str):(relabel sc env).names.lookup x=(sc.names.lookup x).map λk=>if (k == NameKind.free&&env.scope.kind == .function&&env.kindOf x == some .cell) then NameKind.cell else k:=Bx
theorem tf (h:sc.names.lookup x=some .local):(relabel sc env).names.lookup x=some .local:=by
 rw [pE,h];rfl
theorem qMF (h:sc.names.lookup x=some .globalImplicit):(relabel sc env).names.lookup x=some .globalImplicit:=by
 rw [pE,h];rfl
theorem sF (h:sc.names.lookup x=some .free):(relabel sc env).names.lookup x=some .cell∨(relabel sc env).names.lookup x=some .free:=by
 rw [pE,h]
 simp only [ll]
 split
 ·exact .inl rfl
 ·exact .inr rfl
theorem qMG (hc:∀y∈sc.names,y.2≠.cell) (h:(relabel sc env).names.lookup x=some .cell∨(relabel sc env).names.lookup x=some .free):sc.names.lookup x=some .free:=by
 rw [pE] at h
 cases hx:sc.names.lookup x with
 | none=>rw [hx] at h;rcases h with h|h<;>cases h
 | some k =>
  rw [hx] at h
  simp only [ll,qR] at h
  cases k with
  | free=>rfl
  | cell=>exact Qn rfl (hc _ (dj hx))
  | _=>rcases h with h|h<;>(split at h<;>first|(cases h;done)|(rename_i q;exfalso;revert q;simp;done))
def kr (X:Cx) (sc:Scope) (N:List Str) (C:Addr) (s:Shared) (H:Hp) (fp:List Addr):Cx where
 prog:=X.prog
 w:=X.w
 K:=X.K
 mg:=X.mg
 base:=X.base
 A:=X.A
 N:=N
 s₀:=s
 H₀:=H
 env:=compEnvC sc (ee X.env sc.names []) C X.env
 outer:=X.stack
 stack:=X.stack
 ex:=fp
 calm:=X.calm
 fn:=λ_=>false
 pn:=[]
 xe:=λ_ _=>False
section
variable {call:Nat->List D->Option R}{G:Gx}{k:Nat}{X:Cx}{sc sc':Scope}{N:List Str}
structure ScOk (sc:Scope):Prop where
 kind:sc.kind=.function
 cell:∀y∈sc.names,y.2≠.cell
 nd:(sc.names.map (·.1)).Nodup
 pl:∀x∈aP sc++aG sc,eB x=true
theorem AN (h:pF sc=true):ScOk sc:=by
 unfold pF at h
 simp only [aL,beq_iff_eq,yaH,bne_iff_ne,ne_eq,decide_eq_true_eq] at h
 obtain⟨⟨⟨h1,h2⟩,h3⟩,h4⟩:=h
 exact⟨h1,h2,h3,h4⟩
theorem ma {l:List (Str×NameKind)}(nd:(l.map (·.1)).Nodup) {x:Str}{k:NameKind}(h:(x,k)∈l):l.lookup x=some k:=by
 induction l with
 | nil=>cases h
 | cons p r ih =>
  obtain⟨n,k'⟩:=p
  simp only [gd,yaU] at nd
  rcases yaf.mp h with e|e
  ·cases e
   simp [gf]
  ·have hne:(x == n)=false:=by
    rw [beq_eq_false_iff_ne]
    intro z
    subst z
    exact nd.1 (yaI.mpr ⟨_,e,rfl⟩)
   rw [gf,hne]
   exact ih nd.2 e
theorem own_mem:x∈aP sc↔(x,NameKind.local)∈sc.names/\x≠Qa ".0":=by
 unfold aP
 simp only [yaI,ybc,aL,beq_iff_eq,bne_iff_ne,ne_eq]
 constructor
 ·rintro⟨⟨n,k⟩,⟨h1,h2,h3⟩,rfl⟩
  have h2:k=.local:=h2
  subst h2
  exact⟨h1,h3⟩
 ·rintro⟨h1,h2⟩
  exact⟨_,⟨h1,rfl,h2⟩,rfl⟩
theorem free_mem:x∈aG sc↔(x,NameKind.free)∈sc.names:=by
 unfold aG
 simp only [yaI,ybc,beq_iff_eq]
 constructor
 ·rintro⟨⟨n,k⟩,⟨h1,h2⟩,rfl⟩
  have h2:k=.free:=h2
  subst h2
  exact h1
 ·intro h
  exact⟨_,⟨h,rfl⟩,rfl⟩
theorem rS (nd:(sc.names.map (·.1)).Nodup):((sc.names.filter p).map (·.1)).Nodup:=nd.sublist ((List.filter_sublist).map _)
theorem qJ1 (S:ScOk sc):(aP sc++aG sc).Nodup:=by
 rw [List.nodup_append]
 refine⟨rS S.nd,rS S.nd,λx hx y hy e=>?_⟩
 subst e
 have h1:=ma S.nd (own_mem.mp hx).1
 have h2:=ma S.nd (free_mem.mp hy)
 rw [h1] at h2
 cases h2
end
end Dw
namespace Dw
open PySem PySem.Spec PyProof.Rows L2
section
variable {call:Nat->List D->Option R}{G:Gx}{k:Nat}{X:Cx}{sc sc':Scope}{N:List Str}
def oQ (X:Cx) (sc':Scope):Prop:=∀x,(x,NameKind.free)∈sc'.names->X.env.kindOf x=some .cell∨X.env.kindOf x=some .free
theorem mI (ok:X.Ok) (h:oQ X sc'):∀y∈sc'.names,y.2=.free->∃c,X.env.cells.lookup y.1=some c:=λy hy e=>by
 obtain⟨x,kk⟩:=y
 have e:kk=.free:=e
 subst e
 exact ok.has x (h x hy)
theorem qSv (I:Inv X pins Z H s) (S:ScOk sc') (T:oQ X sc') (hf:∀b∈fp,dX X pins H b) (hl:∀b∈fp,b<s.heap.objs.size) :
  (kr X sc' N' s.heap.objs.size s H fp).Ok:=by
 have hc:=mI I.ok T
 refine⟨I.ok.mod,S.kind,I.ok.glob,I.ok.blt,aK _,λx y c h1 h2=>?_,λx h=>?_,λx c h=>?_,I.ok.hd,I.ok.frames,.inl rfl,λb hb=>⟨bR (hl b hb),λx c e=>?_⟩,I.bs,dM I.ok.bsz I.sz,λb o e hb=>?_,λb hb hs=>?_,I.stack,I.stkFree⟩
 ·exact I.ok.inj x y c (je hc h1) (je hc h2)
 ·have hx:=qMG S.cell h
  exact ml X.env _ _ x (.inl (dj hx))
 ·exact Qn h (by intro z;cases z)
 ·exact (hf b hb).2.2.2.2.1 x c (je hc e)
 ·rcases (hf b hb).2.2.2.1 with q|q
  ·exact I.ok.noex b o e q
  ·exact Qn (cw (Qi (I.ok.bs b o e).1) q) (fh _)
 ·rcases yaf.mp (I.stkSub b hs) with e|e
  ·exact (hf b hb).2.1 e
  ·exact (hf b hb).2.2.1 e
theorem qKp (I:Inv X pins Z H s) (S:ScOk sc') (T:oQ X sc') (hf:∀b∈fp,dX X pins H b) (hl:∀b∈fp,b<s.heap.objs.size)
  (kp:∀b o,s.heap.get? b=some o->h'.get? b=some o) (hn:h'.Ns s.heap.objs.size m) (τ:L2.St) (hlen:τ.length=N'.length)
  (hv:∀(i:Nat) (x:Str) (v:V),N'[i]?=some x->τ[i]?=some (some v)->(x,NameKind.free)∈sc'.names/\∃j:Nat,X.N[j]?=some x/\Z[j]?=some (some v)) (hvis:∀x,(x,NameKind.free)∈sc'.names->jI X.env.scope x) :
  Inv (kr X sc' N' s.heap.objs.size s H fp) (X.pn++pins) τ H { s with heap:=h',toks:=t' }:=by
 have hc:=mI I.ok T
 refine⟨qSv I S T hf hl,rfl,I.bare,Un.kept kp,⟨m,hn,λi x v e1 e2 e3=>?_⟩,λx c e=>?_,I.hok.fresh (aK _),λx c e=>I.freeC x c (je hc e),λp hp=>?_,I.hok.kept kp,hlen⟩
 ·obtain⟨hx,j,q1,q2⟩:=hv i x v e1 e2
  obtain⟨m0,hm0,hl0⟩:=I.loc
  obtain⟨u,r,l⟩:=hl0 j x v q1 q2 (hvis x hx)
  refine⟨u,r,.inr ⟨?_,?_⟩⟩
  ·exact sF (ma S.nd hx)
  ·obtain⟨c,ec⟩:=ml X.env _ [] x (.inl hx)
   refine⟨c,ec,?_⟩
   have ec':=je hc ec
   rcases l with ⟨hk,_⟩|⟨hk,c',hc',hcell⟩
   ·rcases T x hx with z|z<;>(rw [hk] at z;cases z)
   ·rw [ec'] at hc'
    cases hc'
    obtain⟨o,ho,hd⟩:=hcell
    exact⟨o,kp c o ho,hd⟩
 ·obtain⟨v,o,ho,hd⟩:=I.cell x c (je hc e)
  exact⟨v,o,kp c o ho,hd⟩
 ·have hp':p∈X.pn++pins:=hp
  obtain⟨e,n,ne,nf,d⟩:=I.pin p hp'
  refine⟨kp _ _ e,n,bR (Qi e),λhs=>?_,d⟩
  rcases yaf.mp (I.stkSub p.1 hs) with z|z
  ·exact ne z
  ·exact nf z
theorem qSu (g:XG call G k X sc N) (S:ScOk sc') {C:Addr}{s:Shared}{H:Hp}{fp:List Addr}:XG call G k (kr X sc' (aP sc'++aG sc') C s H fp) sc' (aP sc'++aG sc'):=by
 refine⟨rfl,qJ1 S,λx h=>?_,λx h=>?_,λx h=>?_,λx h=>?_,g.calm,rfl,g.room,λf i h=>?_,g.blt,g.cons,λu hu=>?_,g.two,g.ccl,g.lam⟩
 ·unfold iA at h
  simp only [dD,beq_iff_eq] at h
  rcases h with (h|h)|h
  ·exact .inl (tf h)
  ·exact Qn rfl (S.cell _ (dj h))
  ·rcases sF (env:=X.env) h with q|q
   ·exact .inr (.inl q)
   ·exact .inr (.inr q)
 ·simp only [dD,beq_iff_eq] at h
  rcases h with h|h
  ·exact⟨.inl (tf h),.inr (tf h)⟩
  ·exact Qn rfl (S.cell _ (dj h))
 ·unfold bf at h
  rw [beq_iff_eq] at h
  exact qMF h
 ·unfold ip at h
  simp only [dD,beq_iff_eq] at h
  rcases h with h|h
  ·exact Qn rfl (S.cell _ (dj h))
  ·exact sF h
 ·obtain⟨a,fd,ps,h1,h2,h3,h4,h5⟩:=(g.defs f i h).ex
  exact⟨a,fd,ps,h1,h2,h3,h4,h5⟩
 ·exact⟨(g.meth u hu).ex⟩
end
end Dw
namespace Dw
open PySem PySem.Spec PyProof.Rows L2
section
variable {call:Nat->List D->Option R}{G:Gx}{k:Nat}{X:Cx}{sc sc':Scope}{N:List Str}
variable (X) in
def SndI (tg iter:Expr) (b:Bool) (src:En->Option (List D)):Prop:=∃wi:TI,PI X tg iter wi/\∀(Ge:Gp) (H:Hp) (F:Fz) (Z:En) (τ:L2.St) (its:List D) (Rr:It->Hp->Prop),src Z=some its->SR X.K Ge H F Z τ ->
 (∀J H' F',Gr H F H' F'->ItOk X.K J H' F' its->(b=true->its.length<=lim)->Rr J H')->wi τ H Rr
variable (X) in
def nZ (tg iter:Expr) (b:Bool) (src:En->Option (List D)):Prop:=∃wi:TI,PI X tg iter wi/\∀(Ge:Gp) (H:Hp) (F:Fz) (Z:En) (τ:L2.St) (its:List D) (Rr:It->Hp->Prop),src Z=some its->SR X.K Ge H F Z τ ->
 (∀J H' F',Gr H F H' F'->oO X.K J H' F' its->(b=true->its.length<=lim)->Rr J H')->wi τ H Rr
theorem SndI.c (h:SndI X tg iter b src):nZ X tg iter b src:=let ⟨wi,p,q⟩:=h;⟨wi,p,λGe H F Z τ its Rr e s k=>q Ge H F Z τ its Rr e s λJ H' F' g ok hl=>k J H' F' g ok.g hl⟩
def qT9 (K:Qb) (tl:TE):TI:=fun Z H R=>tl Z H λx H1=>∃a xs,x=.ref a/\((SqL K H1 a xs/\(xs.length<=sizeLine->R (qc K a) H1))∨(SqT K H1 a xs/\(xs.length<=sizeLine->R (vX K a) H1)))
theorem yO (hl:PE X l tl):PI X tg l (qT9 X.K tl):=by
 intro pins s Z H R I h
 refine aB (hl pins s Z H _ I h) λv s1 ⟨x,H1,I1,r1,a,xs,e,q⟩=>?_
 subst e;cases r1
 have hf:∀b∈[s1.heap.objs.size],dX X pins H1 b:=λb hb=>by
  have e:b=s1.heap.objs.size:=by simpa using hb
  subst e;exact I1.fpOk (aK _) (I1.hok.fresh (aK _))
 rcases q with ⟨hq,q⟩|⟨hq,q⟩
 ·obtain⟨its,rv,p,hz⟩:=I1.list hq
  exact wpAny_pyIter_list p.isList ⟨s1.heap.objs.size,[s1.heap.objs.size],_,_,H1,rfl,I1.kept (t':=s1.toks) λb o e=>Qg _ e,qG3 a _,⟨_,Qh _ rfl,rfl,rfl⟩,hf,q hz⟩
 ·obtain⟨its,rv,p,hz⟩:=I1.tuple hq
  exact wpAny_pyIter_tuple (show s1.heap.IsTuple a its.toArray from p) ⟨s1.heap.objs.size,[s1.heap.objs.size],_,_,H1,rfl,I1.kept (t':=s1.toks) λb o e=>Qg _ e,qGr a _,⟨_,Qh _ rfl,rfl,rfl⟩,hf,q hz⟩
theorem qMh (h:SndE call X l c):SndI X tg l true (fun Z=>(aa call Z c).bind λx=>bw x.2):=by
 obtain⟨t,p,q⟩:=h
 refine⟨_,yO p,λGe H F Z τ its Rr hs hr kk=>?_⟩
 obtain⟨r,e1,e2⟩:=ae hs
 refine q Ge H F Z τ r _ e1 hr λv H1 F1 g rr=>?_
 obtain⟨F2,g2,rd⟩:=rr.fz g
 obtain⟨b,d⟩:=r
 cases d with
 | lst ds =>
  cases e2
  obtain⟨a,vs,rfl,hl,hrd⟩:=rd
  exact⟨a,vs,rfl,.inl ⟨hl.sq,λz=>kk _ H1 F2 g2 (qNp hl hrd) λ_=>by rw [<-RDs.length hrd];exact z⟩⟩
 | tup ds =>
  cases e2
  obtain⟨a,vs,rfl,hl,hrd⟩:=rd
  exact⟨a,vs,rfl,.inr ⟨hl,λz=>kk _ H1 F2 g2 (yw hl hrd) λ_=>by rw [<-RDs.length hrd];exact z⟩⟩
 | _=>cases e2
theorem qJz (h:d8 call X l c):nZ X tg l true (fun Z=>(pk Z c (aa call Z c)).bind bw):=by
 obtain⟨t,p,q⟩:=h
 refine⟨_,yO p,λGe H F Z τ its Rr hs hr kk=>?_⟩
 obtain⟨d,e1,e2⟩:=ae hs
 refine q Ge H F Z τ d _ e1 hr λv H1 F1 g rx=>?_
 cases d with
 | lst ds =>
  cases e2
  obtain⟨a,vs,rfl,hl,hrd⟩:=rx.lst
  exact⟨a,vs,rfl,.inl ⟨hl,λz=>kk _ H1 F1 g (qPT hl hrd) λ_=>by rw [<-RDs.length hrd];exact z⟩⟩
 | tup ds =>
  cases e2
  obtain⟨a,vs,rfl,hl,hrd⟩:=rx.tup
  exact⟨a,vs,rfl,.inr ⟨hl,λz=>kk _ H1 F1 g (yw hl hrd).g λ_=>by rw [<-RDs.length hrd];exact z⟩⟩
 | _=>cases e2
theorem qMt (hx:x=Qa "enumerate") (hg:Gl X x) (hm:X.mg x=none) (hn:[a].all cK=true) (ha:SndE call X a ca) :
  SndI X (.Tuple es kk tp) (.Call (.Name x p) [a] [] pos) true (fun Z=>(aa call Z ca).bind λx=>(bw x.2).bind λxs=>some (cY 0 xs)):=by
 simp only [eS,jO,iW] at hn
 have s1:starEach [a] X.env=[(false,eval a X.env)]:=bK hn
 obtain⟨ta,pa,qa⟩:=ha
 refine⟨_,qO0 hx hg hm (fw pa gS s1) s1,λGe H F Z τ its Rr hs hr kk=>?_⟩
 obtain⟨r,e1,e2⟩:=ae hs
 obtain⟨xs,e5,e6⟩:=ae e2
 cases e6
 refine qa Ge H F Z τ r _ e1 hr λv H1 F1 g1 rr1=>?_
 obtain⟨F1',g1',rd1⟩:=rr1.fz g1
 obtain⟨b1,d1⟩:=r
 cases d1 with
 | lst ds1 =>
  cases e5
  obtain⟨p1,v1,rfl,h1,q1⟩:=rd1
  exact⟨true,p1,v1,rfl,LsR.sq h1,λz=>kk _ H1 F1' g1' (yv (kd:=true) h1 q1) λ_=>by rw [tU,<-RDs.length q1];exact z⟩
 | tup ds1 =>
  cases e5
  obtain⟨p1,v1,rfl,h1,q1⟩:=rd1
  exact⟨false,p1,v1,rfl,h1,λz=>kk _ H1 F1' g1' (yv (kd:=false) h1 q1) λ_=>by rw [tU,<-RDs.length q1];exact z⟩
 | _=>cases e5
theorem qMd (hx:x=Qa "zip") (hg:Gl X x) (hm:X.mg x=none) (hn:[a,b].all cK=true) (ha:SndE call X a ca) (hb:SndE call X b cb) :
  SndI X (.Tuple es kk tp) (.Call (.Name x p) [a,b] [] pos) true (fun Z=>(aa call Z ca).bind λx=>(aa call Z cb).bind λy=>(bw x.2).bind λxs=>(fk y.2).bind λys=>some (bS xs ys)):=by
 simp only [eS,jO,iW,aL] at hn
 have s2:starEach [b] X.env=[(false,eval b X.env)]:=bK hn.2
 have s1:starEach [a,b] X.env=[(false,eval a X.env),(false,eval b X.env)]:=(bK hn.1).trans (by rw [s2])
 obtain⟨ta,pa,qa⟩:=ha
 obtain⟨tb,pb,qb⟩:=hb
 refine⟨_,qOY hx hg hm (fw pa (fw pb gS s2) (bK hn.1)) s1 s2,λGe H F Z τ its Rr hs hr kk=>?_⟩
 obtain⟨r,e1,e2⟩:=ae hs
 obtain⟨r',e3,e4⟩:=ae e2
 obtain⟨xs,e5,e6⟩:=ae e4
 obtain⟨ys,e7,e8⟩:=ae e6
 cases e8
 refine qa Ge H F Z τ r _ e1 hr λv H1 F1 g1 rr1=>?_
 obtain⟨F1',g1',rd1⟩:=rr1.fz g1
 refine qb Ge H1 F1' Z τ r' _ e3 (hr.grow g1') λw H2 F2 g2 rr2=>?_
 obtain⟨F2',g2',rd2⟩:=rr2.fz g2
 have rd1':=RD.mono g2'.keep rd1
 obtain⟨b1,d1⟩:=r
 obtain⟨b2,d2⟩:=r'
 cases d1 with
 | lst ds1 =>
  cases d2 with
  | tup ds2 =>
   cases e5
   cases e7
   obtain⟨p1,v1,rfl,h1,q1⟩:=rd1'
   obtain⟨p2,v2,rfl,h2,q2⟩:=rd2
   exact⟨true,false,p1,p2,v1,v2,rfl,LsR.sq h1,h2,λz=>kk _ H2 F2' (g1'.trans g2') (pj (kd:=true) (ke:=false) h1 h2 q1 q2) λ_=>by
    have:=RDs.length q1
    unfold bS
    rw [lA,<-this]
    exact dM (nG _ _) z⟩
  | lst ds2 =>
   cases e5
   cases e7
   obtain⟨p1,v1,rfl,h1,q1⟩:=rd1'
   obtain⟨p2,v2,rfl,h2,q2⟩:=rd2
   exact⟨true,true,p1,p2,v1,v2,rfl,LsR.sq h1,LsR.sq h2,λz=>kk _ H2 F2' (g1'.trans g2') (pj (kd:=true) (ke:=true) h1 h2 q1 q2) λ_=>by
    have:=RDs.length q1
    unfold bS
    rw [lA,<-this]
    exact dM (nG _ _) z⟩
  | _=>cases e7
 | tup ds1 =>
  cases d2 with
  | tup ds2 =>
   cases e5
   cases e7
   obtain⟨p1,v1,rfl,h1,q1⟩:=rd1'
   obtain⟨p2,v2,rfl,h2,q2⟩:=rd2
   exact⟨false,false,p1,p2,v1,v2,rfl,h1,h2,λz=>kk _ H2 F2' (g1'.trans g2') (pj (kd:=false) (ke:=false) h1 h2 q1 q2) λ_=>by
    have:=RDs.length q1
    unfold bS
    rw [lA,<-this]
    exact dM (nG _ _) z⟩
  | lst ds2 =>
   cases e5
   cases e7
   obtain⟨p1,v1,rfl,h1,q1⟩:=rd1'
   obtain⟨p2,v2,rfl,h2,q2⟩:=rd2
   exact⟨false,true,p1,p2,v1,v2,rfl,h1,LsR.sq h2,λz=>kk _ H2 F2' (g1'.trans g2') (pj (kd:=false) (ke:=true) h1 h2 q1 q2) λ_=>by
    have:=RDs.length q1
    unfold bS
    rw [lA,<-this]
    exact dM (nG _ _) z⟩
  | _=>cases e7
 | _=>cases e5
theorem lY:∀{cs:List C}{Z:En}{ds:List D},bu call Z cs=some ds->ds.length=cs.length
 | [],_,_,h=>by cases h;rfl
 | c::cr,Z,ds,h=>by
  obtain⟨x,e1,e2⟩:=ae h
  obtain⟨xs,e3,e4⟩:=ae e2
  cases e4
  simp [lY e3]
theorem qOL {ds its:List D}(e:dW ds=some its) (h:ds.length=1):∃i,ds=[.int i]:=by
 match ds,h with
 | [a],_=>cases a<;>first|(cases e;done)|exact⟨_,rfl⟩
theorem qOK {ds its:List D}(e:dW ds=some its) (h:ds.length=2):∃i j,ds=[.int i,.int j]:=by
 match ds,h with
 | [a,b],_=>cases a<;>first|(cases e;done)|(cases b<;>first|(cases e;done)|exact⟨_,_,rfl⟩)
theorem qOJ {ds its:List D}(e:dW ds=some its) (h:ds.length=3):∃i j k,ds=[.int i,.int j,.int k]:=by
 match ds,h with
 | [a,b,c],_=>cases a<;>first|(cases e;done)|(cases b<;>first|(cases e;done)|(cases c<;>first|(cases e;done)|exact⟨_,_,_,rfl⟩))
theorem qRG {ds its:List D}(e:gG ds=some its) (h:ds.length=1):∃i,ds=[.int i]:=by
 match ds,h with
 | [a],_=>cases a<;>first|(cases e;done)|exact⟨_,rfl⟩
theorem qMi (hx:x=Qa "range") (hg:Gl X x) (hm:X.mg x=none) (hn:rs.all cK=true) (hl:rs.length=1∨rs.length=2∨rs.length=3) (hcl:cs.length=rs.length) (h:gO call X rs cs) :
  SndI X tg (.Call (.Name x p) rs [] pos) false (fun Z=>(bu call Z cs).bind dW):=by
 subst hx
 obtain⟨t,pt,q⟩:=h
 match rs,hl,hn,hcl,pt with
 | [a],_,hn,hcl,pt =>
  simp only [eS,jO,iW] at hn
  refine⟨_,qHK hg hm pt (bK hn),λGe H F Z τ its Rr hs hr kk=>?_⟩
  obtain⟨ds,e1,e2⟩:=ae hs
  have hlen:=lY e1
  rw [hcl] at hlen
  refine q Ge H F Z τ ds _ e1 hr λvs H1 F1 g rr=>?_
  obtain⟨n,rfl⟩:=qOL e2 hlen
  obtain⟨hc,rfl⟩:=bX (show (if -(2^62)<=n/\n<2^62 then some ((List.range n.toNat).map λi=>D.int (i:Nat)) else none)=some its from e2)
  obtain⟨v,rfl,hv⟩:=RPs.one rr
  have e:(List.range n.toNat).map (λi:Nat=>D.int (i:Nat))=(List.range n.toNat).map λi:Nat=>D.int (0+(i:Nat)):=by simp
  exact⟨n,by rw [hv.int],hc.1,hc.2,kk _ H1 F1 g (by rw [e];exact qPU 0 n.toNat) λz=>nomatch z⟩
 | [a,b],_,hn,hcl,pt =>
  simp only [eS,jO,iW,aL] at hn
  have s2:starEach [b] X.env=[(false,eval b X.env)]:=bK hn.2
  have s1:starEach [a,b] X.env=[(false,eval a X.env),(false,eval b X.env)]:=(bK hn.1).trans (by rw [s2])
  refine⟨_,qHI hg hm pt s1 s2,λGe H F Z τ its Rr hs hr kk=>?_⟩
  obtain⟨ds,e1,e2⟩:=ae hs
  have hlen:=lY e1
  rw [hcl] at hlen
  refine q Ge H F Z τ ds _ e1 hr λvs H1 F1 g rr=>?_
  obtain⟨i,j,rfl⟩:=qOK e2 hlen
  cases e2
  obtain⟨v,w,rfl,hv,hw⟩:=RPs.two rr
  have e:(List.range (j - i).toNat).map (λk:Nat=>D.int (i+(k:Nat)))=(List.range (j - i).toNat).map λk:Nat=>D.int (i+(k:Nat) * 1):=by
   refine qB λk _=>?_
   rw [Int.mul_one]
  exact⟨i,j,by rw [hv.int,hw.int],kk _ H1 F1 g (by rw [e];exact sP i 1 (j - i).toNat) λz=>nomatch z⟩
 | [a,b,c],_,hn,hcl,pt =>
  simp only [eS,jO,iW,aL] at hn
  have s3:starEach [c] X.env=[(false,eval c X.env)]:=bK hn.2.2
  have s2:starEach [b,c] X.env=[(false,eval b X.env),(false,eval c X.env)]:=(bK hn.2.1).trans (by rw [s3])
  have s1:starEach [a,b,c] X.env=[(false,eval a X.env),(false,eval b X.env),(false,eval c X.env)]:=(bK hn.1).trans (by rw [s2])
  refine⟨_,qHJ hg hm pt s1 s2,λGe H F Z τ its Rr hs hr kk=>?_⟩
  obtain⟨ds,e1,e2⟩:=ae hs
  have hlen:=lY e1
  rw [hcl] at hlen
  refine q Ge H F Z τ ds _ e1 hr λvs H1 F1 g rr=>?_
  obtain⟨i,j,k,rfl⟩:=qOJ e2 hlen
  obtain⟨hc,rfl⟩:=bX (show (if -(2^62)<=i/\i<2^62/\-(2^62)<=j/\j<2^62/\k≠0/\k.natAbs<2^30 then some ((List.range (fj i j k).toNat).map λn=>D.int (i+(n:Nat) * k)) else none)=some its from e2)
  obtain⟨v,w,x,rfl,hv,hw,hx⟩:=RPs.three rr
  exact⟨i,j,k,by rw [hv.int,hw.int,hx.int],hc,kk _ H1 F1 g (sP i k (fj i j k).toNat) λz=>nomatch z⟩
theorem qMj (hx:x=Qa "reversed") (hy:y=Qa "range") (hg:Gl X x) (hm:X.mg x=none) (hg':Gl X y) (hm':X.mg y=none) (hn:rs.all cK=true) (hl:rs.length=1) (hcl:cs.length=rs.length) (h:gO call X rs cs) :
  SndI X tg (.Call (.Name x p') [.Call (.Name y p) rs [] pos] [] pos') false (fun Z=>(bu call Z cs).bind gG):=by
 subst hx hy
 obtain⟨t,pt,q⟩:=h
 match rs,hl,hn,hcl,pt with
 | [a],_,hn,hcl,pt =>
  simp only [eS,jO,iW] at hn
  refine⟨_,qOZ hg' hm' hg hm pt (bK hn),λGe H F Z τ its Rr hs hr kk=>?_⟩
  obtain⟨ds,e1,e2⟩:=ae hs
  have hlen:=lY e1
  rw [hcl] at hlen
  refine q Ge H F Z τ ds _ e1 hr λvs H1 F1 g rr=>?_
  obtain⟨n,rfl⟩:=qRG e2 hlen
  obtain⟨hc,rfl⟩:=bX (show (if -(2^62)<=n/\n<2^62 then some ((List.range n.toNat).map λi=>D.int ((n.toNat:Int) - 1 - (i:Nat))) else none)=some its from e2)
  obtain⟨v,rfl,hv⟩:=RPs.one rr
  have e:(List.range n.toNat).map (λi:Nat=>D.int ((n.toNat:Int) - 1 - (i:Nat)))=(List.range n.toNat).map λi:Nat=>D.int (((n.toNat:Int) - 1)+(i:Nat) * (-1)):=by
   refine qB λi _=>?_
   rw [show ((n.toNat:Int) - 1)+(i:Nat) * (-1)=(n.toNat:Int) - 1 - (i:Nat) by omega]
  exact⟨n,by rw [hv.int],hc,kk _ H1 F1 g (by rw [e];exact sP _ (-1) n.toNat) λz=>nomatch z⟩
end
end Dw
namespace Dw
open PySem PySem.Spec PyProof.Rows L2
section
variable {call:Nat->List D->Option R}{G:Gx}{k:Nat}{X:Cx}{sc sc':Scope}{N:List Str}
theorem kX:∀{l:List α}{ks:List β},cL f l=some ks->ks.length=l.length/\∀(i:Nat) (x:α),l[i]?=some x->∃j,ks[i]?=some j/\f x=some j
 | [],ks,h=>by cases h;exact⟨rfl,λi x e=>by simp at e⟩
 | a::r,ks,h=>by
  obtain⟨b,e1,e2⟩:=ae (show ((f a).bind λx=>(cL f r).bind λxs=>some (x::xs))=some ks from h)
  obtain⟨bs,e3,e4⟩:=ae e2
  cases e4
  obtain⟨h1,h2⟩:=kX e3
  refine⟨by simp [h1],λi x e=>?_⟩
  cases i with
  | zero=>simp at e;subst e;exact⟨b,rfl,e1⟩
  | succ i=>simp at e;obtain⟨j,q1,q2⟩:=h2 i x e;exact⟨j,by simpa using q1,q2⟩
theorem kH (h:fQ sc N x=some j):ip sc x=true/\N[j]?=some x/\iA sc x=true:=by
 unfold fQ at h
 split at h
 ·rename_i hc
  unfold ck at h
  split at h
  ·rename_i hv
   rw [aL] at hv
   exact⟨hc,gX h,hv.1⟩
  ·cases h
 ·cases h
variable {ks:List Nat}
theorem Ay (g:XG call G k X sc N) (hk:cL (fQ sc N) (aG sc')=some ks):oQ X sc':=λx hx=>by
 obtain⟨i,hi⟩:=List.mem_iff_getElem?.mp (free_mem.mpr hx)
 obtain⟨j,e1,e2⟩:=(kX hk).2 i x hi
 exact g.cap x (kH e2).1
theorem qN4 (g:XG call G k X sc N) (hk:cL (fQ sc N) (aG sc')=some ks):∀x,(x,NameKind.free)∈sc'.names->jI X.env.scope x:=λx hx=>by
 obtain⟨i,hi⟩:=List.mem_iff_getElem?.mp (free_mem.mpr hx)
 obtain⟨j,e1,e2⟩:=(kX hk).2 i x hi
 exact g.vis x (kH e2).2.2
noncomputable def gq (τ:L2.St) (nl:Nat) (ks:List Nat):L2.St:=List.replicate nl none++ks.map λj=>(τ[j]?).join
theorem qJq (τ:L2.St) (nl:Nat):(gq τ nl ks).length=nl+ks.length:=by simp [gq]
theorem qJr (h:(gq τ nl ks)[i]?=some (some v)):∃m j,i=nl+m/\ks[m]?=some j/\τ[j]?=some (some v):=by
 unfold gq at h
 by_cases hi:i<nl
 ·rw [lB (by simpa using hi),jX] at h
  split at h<;>cases h
 ·rw [jR (by simpa using hi),gE] at h
  simp only [qC] at h
  cases q:ks[i - nl]? with
  | none=>rw [q] at h;cases h
  | some j =>
   rw [q] at h
   refine⟨i - nl,j,by omega,q,?_⟩
   simp only [ll,qR] at h
   cases q2:τ[j]? with
   | none=>rw [q2] at h;cases h
   | some o=>rw [q2] at h;simpa using h
theorem kN (h1:ks[m]?=some j) (h2:τ[j]?=some (some v)):(gq τ nl ks)[nl+m]?=some (some v):=by
 unfold gq
 rw [jR (by simp),gE]
 simp [h1,h2]
theorem jr (h:ar (a9 Z nl ks) i=some r):∃m j,i=nl+m/\ks[m]?=some j/\ar Z j=some r:=by
 unfold ar a9 at h
 by_cases hi:i<nl
 ·rw [lB (by simpa using hi),jX] at h
  split at h<;>cases h
 ·rw [jR (by simpa using hi),gE] at h
  simp only [qC] at h
  cases q:ks[i - nl]? with
  | none=>rw [q] at h;cases h
  | some j =>
   rw [q] at h
   exact⟨i - nl,j,by omega,q,by simpa using h⟩
theorem qPJ (S:ScOk sc') (hk:cL (fQ sc N) (aG sc')=some ks) {m m' j:Nat}(h1:ks[m]?=some j) (h2:ks[m']?=some j):m=m':=by
 obtain⟨hl,hg⟩:=kX hk
 have get:∀{m:Nat},ks[m]?=some j->∃x,(aG sc')[m]?=some x/\N[j]?=some x:=λ{m} h=>by
  obtain⟨q,_⟩:=yal.mp h
  have hx:(aG sc')[m]?=some (aG sc')[m]:=eJ (by omega)
  obtain⟨j',e1,e2⟩:=hg m _ hx
  rw [h] at e1
  cases e1
  exact⟨_,hx,(kH e2).2.1⟩
 obtain⟨x,a1,a2⟩:=get h1
 obtain⟨y,b1,b2⟩:=get h2
 rw [a2] at b2
 cases b2
 exact sX (rS S.nd) a1 b1
theorem qJy (S:ScOk sc') (hk:cL (fQ sc N) (aG sc')=some ks) {K:Qb}{Ge:Gp}{H:Hp}{F:Fz}{Z:En}{τ:L2.St}(nl:Nat) (s:SR K Ge H F Z τ):SR K ⟨Ge.h,none,Ge.tb⟩ H F (a9 Z nl ks) (gq τ nl ks):=by
 refine⟨by simp [a9,gq],s.ent,s.dom,λi d e=>?_,λi d e hd=>?_,λi i' d e h1 h2 h3=>?_,λi m ks' e=>?_,λp d hp=>nomatch hp⟩
 ·obtain⟨m,j,rfl,h1,h2⟩:=jr e
  obtain⟨v,q1,q2⟩:=s.val j d h2
  exact⟨v,kN h1 q1,q2⟩
 ·obtain⟨m,j,rfl,h1,h2⟩:=jr e
  obtain⟨a,ds,vs,q1,q2,q3⟩:=s.own j d h2 hd
  exact⟨a,ds,vs,q1,kN h1 q2,q3⟩
 ·obtain⟨m,j,rfl,a1,a2⟩:=jr h1
  obtain⟨m',j',rfl,b1,b2⟩:=jr h2
  obtain⟨a,u,q2,_⟩:=s.addr a2
  obtain⟨a',u',p2,_⟩:=s.addr b2
  rw [kN a1 q2,kN b1 p2] at h3
  have:j=j':=s.sep j j' d e a2 b2 (by rw [q2,p2,fB h3])
  subst this
  rw [qPJ S hk a1 b1]
 ·obtain⟨m',j,rfl,h1,h2⟩:=jr e
  obtain⟨a,q1,q2⟩:=s.dct j m ks' h2
  exact⟨a,kN h1 q1,q2⟩
theorem Au (S:ScOk sc') (Z:En) {x:Str}{i:Nat}(hx:(sc'.names.lookup x == some .local||sc'.names.lookup x == some .cell)=true) (hi:bQ (aP sc'++aG sc') x=some i):ar (a9 Z (aP sc').length ks) i=none:=by
 cases q:ar (a9 Z (aP sc').length ks) i with
 | none=>rfl
 | some r =>
  obtain⟨m,j,rfl,h1,h2⟩:=jr q
  have hs:=gX hi
  rw [jR (by omega)] at hs
  have hm:=free_mem.mp (jV hs)
  have:=ma S.nd hm
  rw [this] at hx
  simp at hx
theorem yF (S:ScOk sc') (h:eW sc' (aP sc'++aG sc') tg=some t) (Z:En):∀i,(t=.one i∨∃j,t=.two i j∨t=.two j i)->ar (a9 Z (aP sc').length ks) i=none:=by
 have one:∀{x:Str} {i:Nat},(sc'.names.lookup x == some .local||sc'.names.lookup x == some .cell)=true->bQ (aP sc'++aG sc') x=some i->ar (a9 Z (aP sc').length ks) i=none:=λ{x i} hx hi=>Au S Z hx hi
 unfold eW at h
 split at h
 ·rename_i x pos
  split at h
  ·rename_i hx
   cases hi:bQ (aP sc'++aG sc') x with
   | none=>rw [hi] at h;cases h
   | some i =>
    rw [hi] at h
    cases h
    intro i' z
    rcases z with z|⟨j,z|z⟩<;>cases z
    exact one hx hi
  ·cases h
 ·rename_i x p y p' kk pos
  split at h
  ·rename_i hx
   rw [aL,aL] at hx
   obtain⟨⟨hx,hy⟩,hne⟩:=hx
   cases hi:bQ (aP sc'++aG sc') x with
   | none=>rw [hi] at h;cases h
   | some i =>
    cases hj:bQ (aP sc'++aG sc') y with
    | none=>rw [hi,hj] at h;cases h
    | some j =>
     rw [hi,hj] at h
     cases h
     intro i' z
     rcases z with z|⟨j',z|z⟩<;>cases z
     ·exact one hx hi
     ·exact one hy hj
  ·cases h
 ·cases h
theorem zM (S:ScOk sc') (Z:En):∀{es:List Expr}{is:List Nat},cL (eX sc' (aP sc'++aG sc')) es=some is->∀i∈is,ar (a9 Z (aP sc').length ks) i=none
 | [],is,h,i,hi=>by cases h;cases hi
 | e::es,is,h,i,hi=>by
  obtain⟨b,e1,e2⟩:=ae (show ((eX sc' (aP sc'++aG sc') e).bind λx=>(cL (eX sc' (aP sc'++aG sc')) es).bind λxs=>some (x::xs))=some is from h)
  obtain⟨bs,e3,e4⟩:=ae e2
  cases e4
  rcases yaf.mp hi with z|z
  ·subst z
   cases e with
   | Name x p =>
    have e1:(if (sc'.names.lookup x == some .local||sc'.names.lookup x == some .cell)=true then bQ (aP sc'++aG sc') x else none)=some i:=e1
    split at e1
    ·rename_i hx;exact Au S Z hx e1
    ·cases e1
   | _=>cases e1
  ·exact zM S Z e3 i z
theorem qLN (S:ScOk sc') (h:eU sc' (aP sc'++aG sc') tg=some t) (Z:En):∀i,(t=.one i∨(∃j,t=.two i j∨t=.two j i)∨∃is,t=.many is/\i∈is)->ar (a9 Z (aP sc').length ks) i=none:=by
 unfold eU at h
 cases ht:eW sc' (aP sc'++aG sc') tg with
 | some t' =>
  rw [ht] at h
  cases h
  intro i z
  rcases z with z|z|⟨is,z,_⟩
  ·exact yF S ht Z i (.inl z)
  ·exact yF S ht Z i (.inr z)
  ·exact Qn z (qLO ht is)
 | none =>
  rw [ht] at h
  cases tg with
  | Tuple es kk p =>
   obtain⟨is,e1,e2⟩:=yac.mp (show (cL (eX sc' (aP sc'++aG sc')) es).map Tg.many=some t from h)
   subst e2
   intro i z
   rcases z with z|⟨j,z|z⟩|⟨is',z,hi⟩
   ·cases z
   ·cases z
   ·cases z
   ·cases z;exact zM S Z e1 i hi
  | _=>cases h
end
end Dw
namespace Dw
open PySem PySem.Spec PyProof.Rows L2
section
variable {call:Nat->List D->Option R}{G:Gx}{k:Nat}{X:Cx}{sc:Scope}{N:List Str}
theorem tM {β:Type}:∀{l:List (Nat×β)}{a:Nat}{b:β},l.lookup a=some b->(a,b)∈l
 | (x,y)::r,a,b,h=>by
  rw [gf] at h
  split at h
  ·rename_i e;rw [beq_iff_eq] at e;cases h;subst e;exact dF
  ·exact dq _ (tM h)
theorem Ah (env:Env):∀(l:List (Str×NameKind)) (acc:List (Str×Addr)) (p:Str×Addr),p∈ee env l acc->p∈acc∨((p.1,NameKind.free)∈l/\p.2=(env.cells.lookup p.1).getD 0)
 | [],acc,p,h=>.inl h
 | (n,kd)::r,acc,p,h=>by
  have h:p∈ee env r (if kd == .free then (n,(env.cells.lookup n).getD 0)::acc else acc):=h
  rcases Ah env r _ p h with q|⟨q1,q2⟩
  ·split at q
   ·rename_i hk
    rcases yaf.mp q with z|z
    ·subst z
     refine .inr ⟨?_,rfl⟩
     rw [beq_iff_eq] at hk
     subst hk
     exact dF
    ·exact .inl z
   ·exact .inl q
  ·exact .inr ⟨dq _ q1,q2⟩
theorem Aa {K:Qb}{Ge:Gp}{H:Hp}{F:Fz}{Z:En}{τ:L2.St}(s:SR K Ge H F Z τ):∀{ks:List Nat}{ds:List D},lJ Z ks=some ds->∃vs,RDs K H F ds vs/\vs.length=ks.length/\∀(m j:Nat),ks[m]?=some j->∃v,vs[m]?=some v/\τ[j]?=some (some v)
 | [],ds,h=>by cases h;exact⟨[],rfl,rfl,λm j e=>by simp at e⟩
 | q::ks,ds,h=>by
  unfold lJ at h
  split at h
  ·rename_i d e
   obtain⟨ds',e1,e2⟩:=yac.mp h
   subst e2
   obtain⟨vs,h1,h2,h3⟩:=Aa s e1
   obtain⟨v,t1,t2⟩:=s.val q d e
   refine⟨v::vs,⟨v,vs,rfl,t2,h1⟩,by simp [h2],λm j e=>?_⟩
   cases m with
   | zero=>simp at e;subst e;exact⟨v,rfl,t1⟩
   | succ m=>simp only [jY] at e ⊢;exact h3 m j e
  ·cases h
structure LmAt (X:Cx) (L:LamD):Prop where
 q:X.env.qual++"<lambda>"=L.q
 df:defaultsOf L.la X.env=([],[])
 cd:∃c,X.env.code=.ref c/\PySem.W.CodeHd X.base c L.P
 bm:X.base.BuiltinsAt X.mg L.P
 fn:∀y,X.fn y=true
theorem qJA (g:XG call G k X sc N) {f:Str}{i j:Nat}{e1 e2:Expr}{c1 c2:C}{ks:List Nat}{L:LamD}{p pos:Pos}(hf:G.defs.lookup f=some i) (hg:bf sc f=true) (hd:(f == ("__debug__":Str))=false) (hn1:cK e1=true) (hn2:cK e2=true) (h1:SndE call X e1 c1) (h2:SndE call X e2 c2)
  (hj:lamX.lookup j=some L) (S:ScOk L.sc) (hk:cL (fQ sc N) (aG L.sc)=some ks) (hL:LmAt X L):SndE call X (.Call (.Name f p) [e1,e2,.Lambda L.la L.e L.sc L.pos] [] pos) (.lamc i [c1,c2] j ks):=by
 obtain⟨a,fd,ps,hm,hkp,hb,hF,hl,_⟩:=(g.defs f i hf).ex
 obtain⟨t1,p1,q1⟩:=h1
 obtain⟨t2,p2,q2⟩:=h2
 obtain⟨cd,hcd,hhd⟩:=hL.cd
 have T:=Ay g hk
 have pl:PE X (.Lambda L.la L.e L.sc L.pos) (ot X L.la L.e L.sc (ee X.env L.sc.names []) L.pos L.P):=λpins s Z H Q I h=>qO7 hL.df (zk L.sc X.env (mI I.ok T)) hcd hhd hL.bm pins s Z H Q I h
 have s3:cK (.Lambda L.la L.e L.sc L.pos)=true:=rfl
 have PA:=fw p1 (fw p2 (fw pl gS (bK s3)) (bK hn2)) (bK hn1)
 refine⟨_,qJS (CX:=dJ) (E:=E0) hF g.room (g.gl f hg) hm hkp hb (λ_ _ _ _ _ _ z=>z.elim) (λok p' hp=>?_) (λy b e=>?_) hL.fn hd (bK hn1) (gY (by simp [hn2,s3])) PA,λGe H F Z τ r Q hr hs kk=>?_⟩
 ·rcases Ah X.env _ _ p' hp with z|⟨z1,z2⟩
  ·cases z
  ·obtain⟨c,hc⟩:=mI ok T _ z1 rfl
   have hc:X.env.cells.lookup p'.1=some c:=hc
   rw [z2,hc];rfl
 ·rcases sT X.env _ _ y b e with z|⟨z1,z2⟩
  ·cases z
  ·exact T y z1
 ·rw [qKl] at hr
  obtain⟨xs,ex,hr⟩:=ae hr
  obtain⟨ds,ek,hr⟩:=ae hr
  obtain⟨r',ec,hr⟩:=ae hr
  unfold og at hr
  split at hr
  ·rename_i nc
   cases hr
   rw [kR] at ex
   obtain⟨y1,ey1,ex⟩:=ae ex
   obtain⟨xs2,ex2,ex⟩:=ae ex
   cases ex
   rw [kR] at ex2
   obtain⟨y2,ey2,ex2⟩:=ae ex2
   obtain⟨xs3,ex3,ex2⟩:=ae ex2
   cases ex2
   cases ex3
   refine q1 Ge H F Z τ y1 _ ey1 hs λv1 H1 F1 g1 rr1=>?_
   obtain⟨F1',g1',rd1⟩:=rr1.fz g1
   refine q2 Ge H1 F1' Z τ y2 _ ey2 (hs.grow g1') λv2 H2 F2 g2 rr2=>?_
   obtain⟨F2',g2',rd2⟩:=rr2.fz g2
   have s2:=(hs.grow g1').grow g2'
   have hP:H2 L.P=some (.tab L.pos L.q):=s2.tbH (L.P,L.pos,L.q) (yaI.mpr ⟨(j,L),tM hj,rfl⟩)
   refine⟨by rw [hL.q];exact hP,λfa c oc fvs tk ctv H3 sub fresh hfa hca hod hov new cs ok=>?_⟩
   rw [hL.q] at hfa hov
   obtain⟨vs,v1s,v2s,v3s⟩:=Aa s2 ek
   have g3:Gr H2 F2' H3 F2':=⟨sub,λ_ h=>h,λ_ h=>.inl h,λb e=>s2.dom b (by
    cases z:H2 b with
    | none=>rfl
    | some o=>rw [sub b o z] at e;cases e)⟩
   have non:∀a o,cs.lookup a=some o->H3 a=none:=ok.non
   have g4:=xF (F:=F2') g3.dom non
   obtain⟨kl,kg⟩:=kX hk
   have CI:cP (bT H3 cs) cs:=λa o e=>gR e
   have clo:RD X.K (bT H3 cs) F2' (.obj ⟨CL+j,[]⟩ ds) (.ref fa):=by
    refine⟨fa,vs,rfl,?_,RDs.mono (g3.trans g4).keep v1s⟩
    unfold ObjR
    rw [Ql (show CL<=CL+j from Nat.le_add_right _ _)]
    refine⟨rfl,L,_,_,ctv,c,_,oc,_,fvs,tk,cs,by rw [Nat.add_sub_cancel_left];exact hj,g4.same _ _ hfa,g4.same _ _ hca.choose_spec,hod,hov,ok.cell,CI,ok.has,ok.inj,λy hy=>ml X.env _ [] y (.inl (dj hy)),v2s.trans kl,λm y v e3 e4=>?_⟩
    obtain⟨jm,k1,k2⟩:=kg m y e3
    obtain⟨v',w1,w2⟩:=v3s m jm k1
    rw [e4] at w1
    cases w1
    obtain⟨b,hb'⟩:=ml X.env L.sc.names [] y (.inl (free_mem.mp (jV e3)))
    obtain⟨o,u,o1,o2,o3⟩:=ok.val jm y v b (by rw [g.hN];exact (kH k2).2.1) w2 (g.vis y (kH k2).2.2) hb'
    exact⟨b,o,u,hb',o1,o2,o3⟩
   have gAll:=(g2'.trans g3).trans g4
   refine⟨by have:=hl _ _ ec;simpa using this,F2',[y1.2,y2.2,.obj ⟨CL+j,[]⟩ ds],_,s2.tbH.same (g3.trans g4).same,g4.dom,⟨v1,_,rfl,.inl (RD.mono gAll.keep rd1),v2,_,rfl,.inl (RD.mono (g3.trans g4).keep rd2),.ref fa,_,rfl,.inl clo,rfl⟩,ec,λv H' F' g5 rr5 CI'=>?_⟩
   have g6:=qP1 g3.dom non CI' g5
   exact kk v (bN H' cs) F' ((g1'.trans (g2'.trans g3)).trans g6) ((qOI non CI' nc rr5).back (g1'.trans (g2'.trans g3)).same)
  ·cases hr
end
end Dw
namespace Dw
open PySem PySem.Spec PyProof.Rows L2
section
variable {call:Nat->List D->Option R}{G:Gx}{k:Nat}{X:Cx}{sc sc':Scope}{N:List Str}{ks:List Nat}
structure Off (X:Cx) (pins:List (Addr×Obj)) (H:Hp) (C:Addr) (h:Heap):Prop where
 n:H C=none
 ne:C≠X.env.locals
 ab:X.s₀.heap.objs.size<=C
 cl:∀x c,X.env.cells.lookup x=some c->c≠C
 pn:∀p∈X.pn++pins,p.1≠C
 ns:∃m,h.Ns C m
theorem Off.let {s:Shared}{C:Addr}{h':Heap}(o:Off X pins H C s.heap) (I:Inv X pins τ H s) (hs:Heap.SameBut C s.heap h'):Inv X pins τ H { s with heap:=h' }:=
 I.turned (t':=s.toks) (λb ob hb e=>hs.extBut b ob hb e) o.n o.ne (.inr o.ab) o.cl o.pn
theorem By {K:Qb}{Ge:Gp}{H:Hp}{F:Fz}{Q:L2.St->Hp->Prop}{Z0:En}:∀{is:List Nat}{ds:List D}{vs:List V}{Z Z':En}{τ:L2.St},SR K Ge H F Z τ->SR K Ge H F Z0 τ->kD Z is ds=some Z'->RDs K H F ds vs->(∀i∈is,ar Z0 i=none)->(∀τ',SR K Ge H F Z' τ'->SR K Ge H F Z0 τ'->(∀j,ar Z0 j≠none->τ'[j]?=τ[j]?)->Q τ' H)->gL is vs τ H Q
 | [],ds,vs,Z,Z',τ,s,s0,hb,hv,hn,h=>by
  cases ds with
  | nil=>cases hb;have hv:vs=[]:=hv;exact⟨hv,h _ s s0 λ_ _=>rfl⟩
  | cons d r=>cases hb
 | i::is,ds,vs,Z,Z',τ,s,s0,hb,hv,hn,h=>by
  cases ds with
  | nil=>cases hb
  | cons d r =>
   obtain⟨v,w,rfl,h1,h2⟩:=hv
   have n1:=hn i dF
   exact⟨v,w,rfl,By (s.bind h1) (s0.skip n1) hb h2 (λj hj=>hn j (dq _ hj)) fun τ' q1 q2 q3=>h τ' q1 q2 λj hj=>(q3 j hj).trans (bU λz:i=j=>hj (by rw [<-z];exact n1))⟩
theorem qJo {K:Qb}{Ge:Gp}{H:Hp}{F:Fz}{Z Z':En}{τ:L2.St}{t:Tg}{d:D}{v:V}(s:SR K Ge H F Z τ) (hb:cF Z t d=some Z') (hv:RD K H F d v)
  (hn:∀i,(t=.one i∨(∃j,t=.two i j∨t=.two j i)∨∃is,t=.many is/\i∈is)->ar Z i=none):mR K t v τ H fun τ' H'=>H'=H/\SR K Ge H F Z' τ'/\SR K Ge H F Z τ'/\∀j,ar Z j≠none->τ'[j]?=τ[j]?:=by
 cases t with
 | one i =>
  cases hb
  have n1:=hn i (.inl rfl)
  exact⟨rfl,s.bind hv,s.skip n1,λj hj=>bU λz:i=j=>hj (by rw [<-z];exact n1)⟩
 | two i j =>
  unfold cF at hb
  split at hb
  ·rename_i heq;cases heq
  ·rename_i i' j' x y heq
   cases heq
   cases hb
   obtain⟨a,vs,rfl,hs,hr⟩:=hv
   obtain⟨v1,r,rfl,h1,w,r2,e2,h2,h3⟩:=hr
   have h3:r2=[]:=h3
   subst h3
   subst e2
   have n1:=hn i (.inr (.inl ⟨j,.inl rfl⟩))
   have n2:=hn j (.inr (.inl ⟨i,.inr rfl⟩))
   exact⟨a,[v1,w],rfl,hs,rfl,v1,[w],rfl,w,[],rfl,rfl,rfl,(s.bind h1).bind h2,(s.skip n1).skip n2,λq hq=>by
    rw [bU λz:j=q=>hq (by rw [<-z];exact n2),bU λz:i=q=>hq (by rw [<-z];exact n1)]⟩
  ·rename_i heq;cases heq
  ·cases hb
 | many is =>
  unfold cF at hb
  split at hb
  ·rename_i heq;cases heq
  ·rename_i heq;cases heq
  ·rename_i is' ds heq
   cases heq
   obtain⟨a,vs,rfl,hs,hr⟩:=hv
   exact⟨a,vs,rfl,hs,by rw [RDs.length hr];exact tL hb,By s s hb hr (λi hi=>hn i (.inr (.inr ⟨_,rfl,hi⟩))) fun τ' s1 s2 s3=>⟨rfl,s1,s2,s3⟩⟩
  ·cases hb
noncomputable def mP (oc:Option (Expr×C)):List Expr:=oc.elim [] λp=>[p.1]
variable (call) in
def xf (oc:Option (Expr×C)) (Z:En):Option R:=oc.elim (some (false,.bl true)) λp=>aa call Z p.2
variable (call) in
def i8 (oc:Option (Expr×C)) (e:C) (Z:En) (tg:Tg) (its:List D):Option (List D):=oc.elim (cG call e Z tg its) λp=>iN call p.2 e Z tg its
theorem qKm {oc:Option (Expr×C)}{e:C}{Z:En}{tg:Tg}:i8 call oc e Z tg []=some []:=by cases oc<;>rfl
theorem qIt {oc:Option (Expr×C)}{e:C}{Z:En}{tg:Tg}{x:D}{r:List D}:i8 call oc e Z tg (x::r)=(cF Z tg x).bind fun Z1=>(xf call oc Z1).bind (rf ((aa call Z1 e).bind λy=>(i8 call oc e Z tg r).bind λys=>some (y.2::ys)) (i8 call oc e Z tg r)):=by cases oc<;>rfl
def p7 (prog:Program) (w:World) (A:Around) (env:Env) (oc:Option (Expr×C)) (P:Bool->Shared->Prop) (E:Value->Shared->Prop) (s:Shared):Prop:=oc.elim (P true s) λp=>wpAny (model prog w) A (isTrue p.1 env (eval p.1 env)) P E s
theorem qOc {oc:Option (Expr×C)}{pn:List (Addr×Obj)}{τ:L2.St}{H:Hp}{s:Shared}{Ge:Gp}{F:Fz}{Z:En}{x b:Bool}{P:Bool->Shared->Prop}{E:Value->Shared->Prop}(I:Inv X pn τ H s) (sn:∀p,oc=some p->dO call X p.1 p.2) (h:xf call oc Z=some (x,.bl b)) (r:SR X.K Ge H F Z τ) (ex:X.xe=λ_ _=>False)
  (f:∀s' H' F',Inv X pn τ H' s'->Gr H F H' F'->P b s'):p7 X.prog X.w X.A X.env oc P E s:=by
 cases oc with
 | none=>cases h;exact f s H F I (.refl r.dom)
 | some p =>
  obtain⟨tt,pt,qt⟩:=sn p rfl
  have q:=pt pn s τ H (λc H'=>∃F',Gr H F H' F'/\c=b) I (qt Ge H F Z τ x b _ h r λH' F' g=>⟨F',g,rfl⟩)
  rw [ex] at q
  exact Qe q (λc s' ⟨H',I',F',g,e⟩=>e▸f s' H' F' I' g) λ_ _ z=>z.elim
theorem qKe {prog:Program}{w:World}{A:Around}{elt tg iter:Expr}{oc:Option (Expr×C)}{sc:Scope}{pos:Pos}{it acc:Value}{env:Env}{s:Shared}{Rs:Result->Shared->Prop}(J:Nat->Shared->Prop) {E:Value->Shared->Prop}(hE:E=notedBy (model prog w) A env λe s'=>Rs (.error e) s')
  (turn:∀n s,J n s->wpAny (model prog w) A (pyNext it) (λr s1=>match r with
   | none=>Rs (.ok .next) s1
   | some v=>wpAny (model prog w) A (letOwnedTupleGo tg it v) (λ_ s0=>wpAny (model prog w) A (assign tg env v) (λ_ s2=>p7 prog w A env oc (λok s3=>if ok=true then wpAny (model prog w) A (eval elt env) (λx s4=>wpAny (model prog w) A (PySem.call (.builtin "list.append") [acc,x]) (λ_ s5=>∃m,m<n/\J m s5) E s4) E s3 else ∃m,m<n/\J m s3) E s2) E s0) E s1) E s)
  (n:Nat) (h:J n s):codeAny (model prog w) A (.compLoop (.ListComp elt [⟨tg,iter,mP oc,0⟩] sc pos) 0 it acc env) Rs s:=by
 subst hE
 cases oc with
 | none=>exact PySem.W.kcp_loop J turn n h
 | some p=>exact PySem.W.kct_loop J turn n h
structure CoW (call:Nat->List D->Option R) (G:Gx) (k:Nat) (X:Cx) (sc sc':Scope) (N:List Str) (elt tg iter:Expr) (oc:Option (Expr×C)) (t:Tg) (ks:List Nat) (ce:C) (b:Bool) (src:En->Option (List D)):Prop where
 S:ScOk sc'
 ht:eU sc' (aP sc'++aG sc') tg=some t
 hk:cL (fQ sc N) (aG sc')=some ks
 he:∀X':Cx,XG call G k X' sc' (aP sc'++aG sc')->SndE call X' elt ce
 mQ:∀p,oc=some p->∀X':Cx,XG call G k X' sc' (aP sc'++aG sc')->dO call X' p.1 p.2
 hi:nZ X tg iter b src
 hf:∀x,foldedSetIterable iter X.env x=pure x
inductive CoI (call:Nat->List D->Option R) (G:Gx) (k:Nat) (X:Cx) (sc sc':Scope) (N:List Str) (elt:Expr) (gens:List Comprehension) (c:C):Prop
 | mk (tg iter:Expr) (oc:Option (Expr×C)) (t:Tg) (ks:List Nat) (ce:C) (b:Bool) (src:En->Option (List D)) (e:gens=[⟨tg,iter,mP oc,0⟩]) (w:CoW call G k X sc sc' N elt tg iter oc t ks ce b src)
   (hc:∀Z r,aa call Z c=some r->∃its ys,src Z=some its/\i8 call oc ce (a9 Z (aP sc').length ks) t its=some ys/\r=(true,.lst ys)/\((b=true->its.length<=lim)->its.length<=lim)) (nv:∀i,c≠.v i)
inductive LI (call:Nat->List D->Option R) (X X':Cx) (pins:List (Addr×Obj)) (tn:Nat->Heap->Prop) (fp:List Addr) (H2:Hp) (F2:Fz) (Da:Addr) (its ys:List D) (oc:Option (Expr×C)) (ce:C) (t:Tg) (Z:En) (Gh:Gp) (n:Nat) (s:Shared):Prop
 | mk (i:Nat) (τ:L2.St) (H:Hp) (F:Fz) (zs:List V) (y1 y2:List D) (I:Inv X' (X.pn++pins) τ H s) (st:tn i s.heap) (fr:∀c∈fp,H c=none) (gr:Gr H2 F2 H F) (hd:H Da=some (.lst zs)) (nf:¬F Da) (rd:RDs X.K H F y1 zs) (hi:i<=its.length) (hn:n=its.length - i) (he:i8 call oc ce Z t (its.drop i)=some y2) (hy:ys=y1++y2) (hz:zs.length<=i) (sr:SR X.K ⟨Gh.h,none,Gh.tb⟩ H F Z τ)
  (nD:∀j d a,ar Z j=some (true,d)->τ[j]?=some (some (.ref a))->a≠Da)
theorem Aj (g:XG call G k X sc N) {elt tg iter:Expr}{oc:Option (Expr×C)}{t:Tg}{ce:C}{b:Bool}{src:En->Option (List D)}{pos p':Pos}(w:CoW call G k X sc sc' N elt tg iter oc t ks ce b src)
  (I:Inv X pins τ H s) (hS:SR X.K Ge H F Z τ) (hsrc:src Z=some its) (hev:i8 call oc ce (a9 Z (aP sc').length ks) t its=some ys) (hlen:(b=true->its.length<=lim)->its.length<=lim)
  (hend:∀(D C:Addr) (H':Hp) (F':Fz) (s':Shared),Gr H F H' F'->RR X.K H H' F' (true,.lst ys) (.ref D)->Inv X pins τ H' s'->Off X pins H' C s'.heap->compPost (model X.prog X.w) X.A X.xe use Qv (.ref D) C (.ok .next) s') :
  wpAny (model X.prog X.w) X.A (comprehension (.ListComp elt [⟨tg,iter,mP oc,0⟩] sc' pos) sc' X.env p' (newList []) false (eval iter X.env) use) Qv X.xe s:=by
 obtain⟨S,ht,hk,he,mQ,hi,hfs⟩:=w
 have T:=Ay g hk
 have hcl:=mI I.ok T
 refine wpAny_comprehension_free (use:=use) rfl hfs (zk sc' X.env hcl) S.kind (λx hx e=>by obtain⟨n,kk⟩:=x;have e:kk=.local:=e;subst e;exact ma S.nd hx) ?_
 obtain⟨wi,pi,qi⟩:=hi
 refine aB (pi pins s τ H (λJ H'=>∃F',Gr H F H' F'/\oO X.K J H' F' its/\its.length<=lim) I (qi Ge H F Z τ its _ hsrc hS λJ H' F' g1 ok hl=>⟨F',g1,ok,hlen hl⟩)) λv s1 h1=>aB h1 λitv s2 h2=>?_
 obtain⟨it,fp,tn,J,H2,rfl,I2,Tn,st2,f2,F2,g2,tX,hl2⟩:=h2
 refine wpAny_newObj_type (wpAny_newFunctionEnv S.cell (by intro y hy;simp at hy) (λh3 hns hsb=>?_) S.kind)
 dsimp only at hns hsb ⊢
 have hD:H2 s2.heap.objs.size=none:=I2.hok.fresh (aK _)
 generalize hDe:s2.heap.objs.size=Da at hns hsb hD ⊢
 have hD0:H Da=none:=g2.same.free hD
 have lt2:∀{c:Addr} {o:Obj},s2.heap.get? c=some o->c<Da:=λe=>by rw [<-hDe];exact Qi e
 have I3:Inv X pins τ (ay H2 Da (.lst [])) { s2 with heap:=s2.heap.push { cls:=.type "list",dict:=none,data:=.seq ([]:List Value).toArray } }:=by
  subst hDe
  exact I2.laid (t':=s2.toks) (λc u e=>Qg _ e) (aK _) ⟨jN _,[],0,.nil,Qh _ rfl⟩
 generalize hHp:s2.heap.push { cls:=.type "list",dict:=none,data:=.seq ([]:List Value).toArray }=hp at hns hsb I3 ⊢
 have hCs:hp.objs.size=Da+1:=by rw [<-hHp,Heap.size_push,hDe]
 have kp:∀c o,hp.get? c=some o->h3.get? c=some o:=λc o e=>hsb.extBut c o (bR (Qi e)) (Qg _ e)
 have lfp:∀c∈fp,c<Da:=λc hc=>by obtain⟨o,e,_⟩:=Tn.obj _ _ st2 c hc;exact lt2 e
 have f3:∀c∈fp,dX X pins (ay H2 Da (.lst [])) c:=λc hc=>⟨by rw [aD (bR (lfp c hc))];exact (f2 c hc).1,(f2 c hc).2⟩
 have lf3:∀c∈fp,c<({ s2 with heap:=hp }:Shared).heap.objs.size:=λc hc=>by show c<hp.objs.size;rw [hCs];exact Nat.lt_succ_of_lt (lfp c hc)
 obtain⟨kl,kg⟩:=kX hk
 have I4:Inv (kr X sc' (aP sc'++aG sc') hp.objs.size { s2 with heap:=hp } (ay H2 Da (.lst [])) fp) (X.pn++pins) (gq τ (aP sc').length ks) (ay H2 Da (.lst [])) { s2 with heap:=h3,toks:=s2.toks+([]:List (Str×Value)).length }:=by
  refine qKp (N':=aP sc'++aG sc') I3 S T f3 lf3 kp hns _ (by rw [qJq,ik,kl]) (λi x v e1 e2=>?_) (qN4 g hk)
  obtain⟨m,j,rfl,q1,q2⟩:=qJr e2
  rw [jR (by omega)] at e1
  have e1':(aG sc')[m]?=some x:=by rw [<-e1];congr 1;omega
  obtain⟨j',r1,r2⟩:=kg m x e1'
  rw [q1] at r1
  cases r1
  exact⟨free_mem.mp (jV e1'),j,by rw [g.hN];exact (kH r2).2.1,q2⟩
 have g':XG call G k (kr X sc' (aP sc'++aG sc') hp.objs.size { s2 with heap:=hp } (ay H2 Da (.lst [])) fp) sc' (aP sc'++aG sc'):=qSu g S
 have se:=he _ g'
 have sn:=λp e=>mQ p e _ g'
 have pg:=sH g' ht
 have tow:=qLN (ks:=ks) S ht Z
 generalize hX':kr X sc' (aP sc'++aG sc') hp.objs.size { s2 with heap:=hp } (ay H2 Da (.lst [])) fp=X' at I4 g' se sn pg
 have eP:X'.prog=X.prog:=by rw [<-hX'];rfl
 have ew:X'.w=X.w:=by rw [<-hX'];rfl
 have eK:X'.K=X.K:=by rw [<-hX'];rfl
 have eA:X'.A=X.A:=by rw [<-hX'];rfl
 have eE:X'.env=compEnvC sc' (ee X.env sc'.names []) hp.objs.size X.env:=by rw [<-hX'];rfl
 have ex:X'.xe=λ_ _=>False:=g'.xe
 have fpX:∀{H':Hp},(∀c∈fp,H' c=none)->∀c∈fp,dX X' (X.pn++pins) H' c:=λ{H'} hn c hc=>by
  obtain⟨a0,a1,a2,a3,a4,a5⟩:=f3 c hc
  rw [<-hX']
  refine⟨hn c hc,bR (lf3 c hc),λhs=>?_,.inl hc,λx cc e=>a4 x cc (je hcl e),λp hp=>a5 p hp⟩
  rcases yaf.mp (I3.stkSub c hs) with z|z
  ·exact a1 z
  ·exact a2 z
 have loop:codeAny (model X.prog X.w) X.A (.compLoop (.ListComp elt [⟨tg,iter,mP oc,0⟩] sc' pos) 0 (.ref it) (.ref Da) (compEnvC sc' (ee X.env sc'.names []) hp.objs.size X.env)) (compPost (model X.prog X.w) X.A X.xe use Qv (.ref Da) hp.objs.size) { s2 with heap:=h3,toks:=s2.toks+([]:List (Str×Value)).length }:=by
  refine qKe (LI call X X' pins tn fp H2 F2 Da its ys oc ce t (a9 Z (aP sc').length ks) Ge) rfl ?_ its.length ?_
  ·rintro n s' ⟨i,τ',H',F',zs,y1,y2,I',st',fr',gr',hd',nf',rd',hi,rfl,hev',hyy,hzl,sr',nD'⟩
   have hx':∀{α:Type} {tr:Sem α} {Q1:α->Shared->Prop} {E1:Value->Shared->Prop} {s0:Shared},wpAny (model X'.prog X'.w) X'.A tr Q1 X'.xe s0->wpAny (model X.prog X.w) X.A tr Q1 E1 s0:=λ{α tr Q1 E1 s0} h=>by
    rw [eP,ew,eA,ex] at h
    exact Qe h (λ_ _ z=>z) λ_ _ z=>z.elim
   have kd:Keep H2 F2 H' F':=gr'.keep
   obtain⟨okI,okS⟩:=tX H' F' gr'
   by_cases hlt:i<its.length
   ·have hdi:its[i]?=some its[i]:=eJ hlt
    obtain⟨go,yl⟩:=okI i _ hdi
    have hdr:its.drop i=its[i]::its.drop (i+1):=List.drop_eq_getElem_cons hlt
    rw [hdr,qIt] at hev'
    obtain⟨Z1,b1,hev'⟩:=ae hev'
    obtain⟨⟨x0,d0⟩,b0,hev'⟩:=ae hev'
    have ti:=Tn.item X' eP ew eK g'.calm i (X.pn++pins) s' τ' H' (notedBy (model X.prog X.w) X.A (compEnvC sc' (ee X.env sc'.names []) hp.objs.size X.env) λe s'=>compPost (model X.prog X.w) X.A X.xe use Qv (.ref Da) hp.objs.size (.error e) s') I' (fpX fr') st' go
    rw [eA] at ti
    refine aB ti λr s4 ⟨u,hr,h4⟩=>?_
    subst hr
    refine aB h4 λ_ s5 ⟨x,H5,I5,r5,y5,st5,fr5⟩=>?_
    obtain⟨F5,g5,rd5⟩:=yl x H5 y5
    have I5':=I5.pinned (fpX fr5) (Tn.obj _ _ st5)
    have sr5:=sr'.grow g5
    rw [<-eE]
    have a6:=pg _ s5 τ' H5 x u (fun τ6 H6=>H6=H5/\SR X.K ⟨Ge.h,none,Ge.tb⟩ H5 F5 Z1 τ6/\SR X.K ⟨Ge.h,none,Ge.tb⟩ H5 F5 (a9 Z (aP sc').length ks) τ6/\∀j,ar (a9 Z (aP sc').length ks) j≠none->τ6[j]?=τ'[j]?) I5' r5 (by
     rw [eK]
     exact qJo sr5 b1 rd5 tow)
    refine hx' (aB a6 λ_ s6 ⟨τ6,H6,I6,e6,sr6,sc6,sm6⟩=>?_)
    subst e6
    obtain⟨b00,rfl⟩:∃b00,d0=.bl b00:=by cases d0<;>first|exact⟨_,rfl⟩|cases hev'
    have tx:∀{P:Bool->Shared->Prop} {E:Value->Shared->Prop},p7 X'.prog X'.w X'.A X'.env oc P E s6->p7 X.prog X.w X.A X'.env oc P E s6:=by rw [eP,ew,eA];exact λh=>h
    refine tx (qOc I6 sn b0 (by rw [eK];exact sr6) g'.xe λs6b H6b F6b I6b g6b=>?_)
    have hd6:H6b Da=some (.lst zs):=g6b.same _ _ (g5.same _ _ hd')
    have g56:Gr H' F' H6b F6b:=g5.trans g6b
    have nf6:¬F6b Da:=λz=>by
     rcases g56.new Da z with q|q
     ·exact nf' q
     ·rw [hd'] at q;cases q
    cases b00 with
    | false =>
     rw [Qm (by decide)]
     refine⟨its.length - (i+1),by omega,i+1,τ6,H6b,F6b,zs,y1,y2,I6b.unpinned,?_,?_,gr'.trans g56,hd6,nf6,RDs.mono g56.keep rd',hlt,rfl,hev',hyy,by omega,sc6.grow g6b,λj d a h1 h2=>?_⟩
     ·exact Tn.keep _ _ _ st5 λc hc o e=>(I6b.pin (c,o) (eT _ (eT _ (kW hc e)))).1
     ·intro c hc
      obtain⟨o,e,d⟩:=Tn.obj _ _ st5 c hc
      exact (I6b.pin (c,o) (eT _ (eT _ (kW hc e)))).2.1
     ·exact nD' j d a h1 (by rw [<-sm6 j (by rw [h1];simp)];exact h2)
    | true =>
    rw [Ql rfl]
    obtain⟨y,b2,hev'⟩:=ae hev'
    obtain⟨ys',b3,hev'⟩:=ae hev'
    have hys:y2=y.2::ys':=(fB hev').symm
    replace sr6:=sr6.grow g6b
    replace sc6:=sc6.grow g6b
    replace I6:=I6b
    replace hd':=hd6
    replace g5:=g56
    clear hd6 g56
    obtain⟨te,pe,qe⟩:=se
    have a7:=pe _ s6b τ6 H6b (λv H7=>∃F7,Gr H6b F6b H7 F7/\RR X.K H6b H7 F7 y v) I6 (qe ⟨Ge.h,none,Ge.tb⟩ H6b F6b Z1 τ6 y _ b2 (by rw [eK];exact sr6) λv H7 F7 g7 rr=>⟨F7,g7,by rw [<-eK];exact rr⟩)
    refine hx' (aB a7 λvv s7 ⟨v,H7,I7,r7,F7,g7,rr7⟩=>?_)
    obtain⟨F8,g8,rd8⟩:=rr7.fz g7
    have hd7:H7 Da=some (.lst zs):=g7.same _ _ hd'
    have nf8:¬F8 Da:=λz=>by
     rcases g8.new Da z with q|q
     ·exact nf6 q
     ·rw [hd'] at q;cases q
    have a8:=Bc (X:=X') _ s7 τ6 H7 (.ref Da) [v] (.ref Da) [vv] (λ_ H9=>H9=ay H7 Da (.lst (zs++[v]))) I7 rfl (.cons r7 .nil) ⟨Da,zs,v,rfl,rfl,hd7,cw (by omega) hl2,rfl⟩
    refine hx' (aB a8 λ_ s9 ⟨_,H9,I9,_,e9⟩=>?_)
    subst e9
    have k8:Keep H7 F8 (ay H7 Da (.lst (zs++[v]))) F8:=⟨λp xs h=>by
     have ne:p≠Da:=λz=>by
      subst z
      rcases h with h|⟨o,h⟩<;>(rw [hd7] at h;cases h)
     rcases h with h|⟨o,h⟩
     ·exact .inl (by rw [aD ne];exact h)
     ·exact .inr ⟨o,by rw [aD ne];exact h⟩,λp xs f h=>by
     have ne:p≠Da:=λz=>by subst z;exact nf8 f
     refine⟨f,?_⟩
     rcases h with h|⟨o,h⟩
     ·exact .inl (by rw [aD ne];exact h)
     ·exact .inr ⟨o,by rw [aD ne];exact h⟩,λp C dx fs h=>by rw [aD (λz=>by subst z;rw [hd7] at h;cases h)];exact h,λp o u h=>by rw [aD (λz=>by subst z;rw [hd7] at h;cases h)];exact h⟩
    have g58:Gr H' F' H7 F8:=g5.trans g8
    have gall:Gr H2 F2 (ay H7 Da (.lst (zs++[v]))) F8:=by
     have gg:=gr'.trans g58
     refine⟨λc o e=>?_,gg.sub,gg.new,λc e=>?_⟩
     ·rw [aD (bY e hD)];exact gg.same c o e
     ·by_cases z:c=Da
      ·subst z;rw [cD] at e;cases e
      ·rw [aD z] at e;exact gg.dom c e
    refine⟨its.length - (i+1),by omega,i+1,τ6,ay H7 Da (.lst (zs++[v])),F8,zs++[v],y1++[y.2],ys',I9.unpinned,?_,?_,gall,cD,nf8,?_,hlt,rfl,b3,(by rw [hyy,hys,List.append_assoc];rfl),(by simp;omega),?_,λj d a h1 h2=>?_⟩
    ·exact Tn.keep _ _ _ st5 λc hc o e=>(I9.pin (c,o) (eT _ (eT _ (kW hc e)))).1
    ·intro c hc
     obtain⟨o,e,d⟩:=Tn.obj _ _ st5 c hc
     exact (I9.pin (c,o) (eT _ (eT _ (kW hc e)))).2.1
    ·exact RDs.append (RDs.mono (g58.keep.trans k8) rd') ⟨v,[],rfl,RD.mono k8 rd8,rfl⟩
    ·have sc8:=sc6.grow g8
     refine sc8.keep k8 ?_ gall.dom (λj d hj hd=>?_) (λj m ks' hj=>?_) (λp d hp=>nomatch hp)
     ·intro c o e
      have h7:=sc8.ent c o e
      have:c≠Da:=λz=>by
       subst z
       have:=hS.ent c o e
       rw [hD0] at this
       cases this
      rw [aD this];exact h7
     ·obtain⟨a,ds,vs,q1,q2,q3,q4,q5,q6⟩:=sc8.own j d hj hd
      have ne:a≠Da:=nD' j d a hj (by rw [<-sm6 j (by rw [hj];simp)];exact q2)
      exact⟨a,ds,vs,q1,q2,q3,q4,by rw [aD ne];exact q5,RDs.mono k8 q6⟩
     ·obtain⟨a,q1,q2,q3,q4⟩:=sc8.dct j m ks' hj
      have ne:a≠Da:=nD' j _ a hj (by rw [<-sm6 j (by rw [hj];simp)];exact q1)
      exact⟨a,q1,q2,by rw [aD ne];exact q3,q4⟩
    ·exact nD' j d a h1 (by rw [<-sm6 j (by rw [h1];simp)];exact h2)
   ·have hin:i=its.length:=by omega
    subst hin
    have td:=Tn.done X' eP ew eK g'.calm its.length (X.pn++pins) s' τ' H' (notedBy (model X.prog X.w) X.A (compEnvC sc' (ee X.env sc'.names []) hp.objs.size X.env) λe s'=>compPost (model X.prog X.w) X.A X.xe use Qv (.ref Da) hp.objs.size (.error e) s') I' (fpX fr') st' okS
    rw [eA] at td
    refine aB td λr s4 ⟨hr,I4'⟩=>?_
    subst hr
    rw [List.drop_of_length_le (aK _),qKm] at hev'
    have hyl:y2=[]:=(fB hev').symm
    subst hyl
    rw [iX] at hyy
    subst hyy
    have Ib:=I4'.base
    rw [<-hX'] at Ib
    have Io:Inv X pins τ H' s4:=by
     refine I3.call' (ch:=fp) (by have:=I4'.os;rw [<-hX'] at this;exact this) Ib (by have:=I4'.hok;rw [eP,ew] at this;exact this) I4'.bare λc hc=>?_
     obtain⟨a0,a1,a2,a3,a4,a5⟩:=f3 c hc
     exact⟨a3,a1,a4,a5⟩
    refine hend Da hp.objs.size H' F' s4 (g2.trans gr') ⟨Da,ys,zs,rfl,rfl,hD0,nf',hd',rd'⟩ Io ⟨?_,jP I3.lt,I3.sz,λx c e=>?_,λp hp=>?_,?_⟩
    ·have:=I4'.free
     rw [eE] at this
     exact this
    ·obtain⟨v,q⟩:=I3.cell x c e
     exact bR q.lt
    ·exact bR (Qi (I3.pin p hp).1)
    ·obtain⟨m,hm,_⟩:=I4'.loc
     rw [eE] at hm
     exact⟨m,hm⟩
  ·refine⟨0,gq τ (aP sc').length ks,ay H2 Da (.lst []),F2,[],[],ys,I4,?_,λc hc=>(f3 c hc).1,Gr.laid g2.dom hD,cD,g2.dom Da hD,rfl,jN _,rfl,by simpa using hev,rfl,aK _,?_,λj d a h1 h2=>?_⟩
   ·exact Tn.keep _ _ _ st2 λc hc o e=>kp c o (by rw [<-hHp];exact Qg _ e)
   ·exact qJy S hk _ (hS.grow (g2.trans (Gr.laid g2.dom hD)))
   ·obtain⟨m,j',rfl,q1,q2⟩:=jr h1
    obtain⟨a',u',p2,_,p5⟩:=hS.addr q2
    rw [kN q1 p2] at h2
    cases h2
    exact bY p5 hD0
 exact codeAny_compStart_list loop (Tn.self _ 0 _ _ _ (Tn.keep _ _ _ st2 λc hc o e=>kp c o (by rw [<-hHp];exact Qg _ e)) loop)
end
end Dw
namespace Dw
open PySem PySem.Spec PyProof.Rows L2
section
variable {call:Nat->List D->Option R}{G:Gx}{k:Nat}{X:Cx}{sc sc':Scope}{N:List Str}{ks:List Nat}
theorem qJD (g:XG call G k X sc N) {elt:Expr}{gens:List Comprehension}{c:C}{pos:Pos}(q:CoI call G k X sc sc' N elt gens c):SndE call X (.ListComp elt gens sc' pos) c:=by
 obtain⟨tg,iter,oc,t,ks,ce,b,src,rfl,w,hc,nv⟩:=q
 refine⟨fun τ H Q=>∃Ge F Z r,aa call Z c=some r/\SR X.K Ge H F Z τ/\∀v H' F',Gr H F H' F'->RR X.K H H' F' r v->Q v H',λpins s τ H Q I ⟨Ge,F,Z,r,h1,h2,h3⟩=>?_,λGe H F Z τ r Q h1 h2 h3=>⟨Ge,F,Z,r,h1,h2,h3⟩⟩
 obtain⟨its,ys,e1,e2,rfl,e4⟩:=hc Z r h1
 rw [eval_ListComp]
 refine Aj g w (use:=none) I h2 e1 e2 e4 λDa C H' F' s' gr rr I' o=>?_
 obtain⟨m,hm⟩:=o.ns
 exact⟨m,hm,λh' hs=>⟨.ref Da,H',o.let I' hs,rfl,h3 _ H' F' gr rr⟩⟩
theorem qKB (g:XG call G k X sc N) {elt:Expr}{gens:List Comprehension}{c:C}{pos py spos:Pos}{x:Str}{i:Nat}(q:CoI call G k X sc sc' N elt gens c)
  (hx:(sc.names.lookup x == some .local||sc.names.lookup x == some .cell)=true) (hsl:bQ N x=some i) (hsw:swapsWith (.ListComp elt gens sc' pos) (some (.Name x py)) spos.line X.env=pure true) :
  PS X (.Assign [.Name x py] (.ListComp elt gens sc' pos) spos) (λDn τ H=>∃Ge F Z r,aa call Z c=some r/\SR X.K Ge H F Z τ/\∀v H' F',Gr H F H' F'->RR X.K H H' F' r v->Dn.nx (τ.set i (some v)) H'):=by
 obtain⟨tg,iter,oc,t,ks,ce,b,src,rfl,w,hc,nv⟩:=q
 intro pins s τ H Dn I ⟨Ge,F,Z,r,h1,h2,h3⟩
 obtain⟨its,ys,e1,e2,rfl,e4⟩:=hc Z r h1
 rw [exec_Assign_Name_used _ _ _ _ hsw]
 refine Qc (wpAny_standAt (Qc ?_))
 obtain⟨l1,l2⟩:=ku g hx
 refine Qc (Aj g (p':=firstIterPos [⟨tg,iter,mP oc,0⟩] pos) w (use:=some (assign (.Name x py) X.env)) I h2 e1 e2 e4 λDa C H' F' s' gr rr I' o=>?_)
 have q:=h3 _ H' F' gr rr
 refine wpAny_assign_Name (Bh (v:=.ref Da) I' (by rw [g.hN];exact g.nd) (by rw [g.hN];exact gX hsl) l1 rfl (λs2 I2 hch=>?_) l2)
 obtain⟨m,hm⟩:=o.ns
 obtain⟨a,hsb,ha⟩:=hch
 have hCa:C≠a:=by
  rcases ha with e|e
  ·rw [e];exact o.ne
  ·exact (o.cl _ _ e).symm
 have o2:Off X pins H' C s2.heap:=⟨o.n,o.ne,o.ab,o.cl,o.pn,⟨m,hm.sameBut hsb hCa⟩⟩
 exact⟨m,hm.sameBut hsb hCa,λh' hs=>Qd (Qd ⟨_,H',o2.let I2 hs,q⟩)⟩
theorem om {n:Nat}{e:Expr}{c:C}(h:cE G n sc N e=some c):lP e/\cK e=true/\(∀env x,foldedSetIterable e env x=pure x)/\∀op,behindInMarks op e=false:=by
 cases n with
 | zero=>cases h
 | succ n=>cases e<;>first|exact⟨λo i=>rfl,rfl,λ_ _=>rfl,λ_=>rfl⟩|(cases h;done)|(cases n<;>cases h)
theorem AI {n:Nat}{e:Expr}{c:C}(h:cE G n sc N e=some c):lP e:=(om h).1
theorem fv {n:Nat}{e:Expr}{c:C}(h:cE G n sc N e=some c):cK e=true:=(om h).2.1
theorem sQ {n:Nat}{e:Expr}{c:C}(h:cE G n sc N e=some c) (env:Env):∀x,foldedSetIterable e env x=pure x:=(om h).2.2.1 env
theorem qNa {n:Nat}{e:Expr}{c:C}(h:cE G n sc N e=some c):∀op,behindInMarks op e=false:=(om h).2.2.2
theorem qKC {as:List Expr}{a:Expr}(h:rm as=some a):as=[a]:=by
 match as,h with
 | [b],h=>cases h;rfl
theorem qKg {op:CmpOp}{b:Expr}{q:Bool×Const}(h:oC op b=some q):∃j p,b=.Constant q.2 j p/\op=if q.1 then .IsNot else .Is:=by
 cases b with
 | Constant c j p=>cases op<;>cases h<;>exact⟨j,p,rfl,rfl⟩
 | _=>cases h
theorem qJF {b:Expr}{q:Option Expr×Option Expr}(h:oq b=some q):∃p,b=.Slice q.1 q.2 none p:=by
 cases b with
 | Slice lo hi st p=>cases st<;>cases h;exact⟨p,rfl⟩
 | _=>cases h
noncomputable def B2:C->Bool
 | .v _=>true
 | _=>false
theorem fW {c:C}(h:B2 c=false) (i:Nat):c≠.v i:=by rintro rfl;cases h
structure Ok (call:Nat->List D->Option R) (X:Cx) (e:Expr) (c:C):Prop where
 he:SndE call X e c
 hp:d8 call X e c
 ht:dO call X e c
 hg:oP call X e c
 nv:(∃x p,e=.Name x p)∨∀i,c≠.v i
theorem Ok.of (h:SndE call X e c) (ht:dO call X e c) (hc:∀i,c≠.v i):Ok call X e c:=⟨h,h.look hc,ht,h.lend hc,.inr hc⟩
theorem eO {e:Expr}{c:C}(h:SndE call X e c) (t:∀whole,isTrue e X.env whole=(do let v <-whole;standAt e.pos;holding [v] (truthy v))) (hc:B2 c=false):Ok call X e c:=.of h (h.test t) (fW hc)
structure AllE (call:Nat->List D->Option R) (G:Gx) (k n:Nat):Prop where
 e:∀(X:Cx) (sc:Scope) (N:List Str) (e:Expr) (c:C),XG call G k X sc N->cE G n sc N e=some c->Ok call X e c
 f:∀(X:Cx) (sc:Scope) (N:List Str) (f:Str) (es:List Expr) (c:C) (p pos:Pos),XG call G k X sc N->bf sc f=true->eB f=true->oG G n sc N f es=some c->SndE call X (.Call (.Name f p) es [] pos) c/\∀i,c≠.v i
 a:∀(X:Cx) (sc:Scope) (N:List Str) (es:List Expr) (cs:List C),XG call G k X sc N->eG G n sc N es=some cs->gj call X es cs/\gO call X es cs/\es.all cK=true/\cs.length=es.length
 o:∀(X:Cx) (sc:Scope) (N:List Str) (e:Option Expr) (c:Option C),XG call G k X sc N->cO G n sc N e=some c->lH call X e c
 x:∀(X:Cx) (sc:Scope) (N:List Str) (e:Expr) (c:C),XG call G k X sc N->cX G n sc N e=some c->Ok call X e c/\∀i,c≠.v i
 ga:∀(X:Cx) (sc:Scope) (N:List Str) (es:List Expr) (cs:List C),XG call G k X sc N->eG G n sc N es=some cs->lL call X es cs
 w:∀(X:Cx) (sc:Scope) (N:List Str) (es:List Expr) (c:C),XG call G k X sc N->i7 G n sc N es=some c->SndW call X .And es c
 v:∀(X:Cx) (sc:Scope) (N:List Str) (es:List Expr) (c:C),XG call G k X sc N->jG G n sc N es=some c->SndW call X .Or es c
theorem qKF:AllE call G k 0:=by
 constructor
 ·intro X sc N e c _ h;cases h
 ·intro X sc N f es c p pos _ _ _ h;cases h
 ·intro X sc N e c _ h;cases h
 ·intro X sc N e c _ h;cases h
 ·intro X sc N e c _ h;cases h
 ·intro X sc N e c _ h;cases h
 ·intro X sc N e c _ h;cases h
 ·intro X sc N e c _ h;cases h
inductive Srk (sc:Scope):Expr->Sr->Prop where
 | seq (e:Expr):Srk sc e (.seq e)
 | rng (x:Str) (p:Pos) (as:List Expr) (pos:Pos):bf sc x=true->x=Qa "range"->(as.length=1∨as.length=2∨as.length=3)->Srk sc (.Call (.Name x p) as [] pos) (.rng as)
 | zip (x:Str) (p:Pos) (a b:Expr) (pos:Pos):bf sc x=true->x=Qa "zip"->Srk sc (.Call (.Name x p) [a,b] [] pos) (.zip a b)
 | enm (x:Str) (p:Pos) (a:Expr) (pos:Pos):bf sc x=true->x=Qa "enumerate"->Srk sc (.Call (.Name x p) [a] [] pos) (.enm a)
 | rev (x y:Str) (p p2:Pos) (a:Expr) (pos pos2:Pos):bf sc x=true->x=Qa "reversed"->bf sc y=true->y=Qa "range"->Srk sc (.Call (.Name x p) [.Call (.Name y p2) [a] [] pos2] [] pos) (.rev [a])
theorem wC (it:Expr):Srk sc it (i9 sc it):=by
 unfold i9
 split
 ·rename_i f p as pos
  split
  ·rename_i h
   simp only [aL,dD,beq_iff_eq,or_assoc] at h
   exact .rng f p as pos h.1.1 h.1.2 h.2
  ·split
   ·rename_i h
    simp only [aL,beq_iff_eq] at h
    split
    ·exact .zip f p _ _ pos h.1 h.2
    ·exact .seq _
   ·split
    ·rename_i h
     simp only [aL,beq_iff_eq] at h
     split
     ·split
      ·rename_i h'
       simp only [aL,beq_iff_eq] at h'
       exact .rev f _ p _ _ pos _ h.1 h.2 h'.1 h'.2
      ·exact .seq _
     ·exact .seq _
    ·split
     ·rename_i h
      simp only [aL,beq_iff_eq] at h
      split
      ·exact .enm f p _ pos h.1 h.2
      ·exact .seq _
     ·exact .seq _
 ·exact .seq _
theorem lT (g:XG call G k X sc N) (hG:∀x∈bP,G.defs.lookup x=none) (h:x=Qa s) (hs:s∈["len","abs","min","max","sum","all","tuple","list","int","bool","str","isinstance","range","zip","reversed","sorted","enumerate","any"]):X.mg x=none:=g.blt x (hG x (gQ h hs)) (gQ h hs)
theorem zG (A:AllE call G k n) (g:XG call G k X sc N) (h:cE G n sc N it=some x):SndI X tg it true (fun Z=>(aa call Z x).bind λr=>bw r.2):=qMh (A.e X sc N it x g h).he
theorem qJx (A:AllE call G k n) (g:XG call G k X sc N) (h:cE G n sc N it=some x):nZ X tg it true (fun Z=>(pk Z x (aa call Z x)).bind bw):=qJz (A.e X sc N it x g h).hp
theorem zE (A:AllE call G k n) (g:XG call G k X sc N) (hG:∀x∈bP,G.defs.lookup x=none) (hg:bf sc f=true) (hf:f=Qa "range") (hl:as.length=1∨as.length=2∨as.length=3) (h:eG G n sc N as=some xs) :
  SndI X tg (.Call (.Name f p) as [] pos) false (fun Z=>(bu call Z xs).bind dW):=by
 obtain⟨_,a2,a3,a4⟩:=A.a X sc N as xs g h
 exact qMi hf (g.gl f hg) (lT g hG hf (by decide)) a3 hl a4 a2
theorem zH (A:AllE call G k n) (g:XG call G k X sc N) (hG:∀x∈bP,G.defs.lookup x=none) (hg:bf sc f=true) (hf:f=Qa "zip") (ha:cE G n sc N a=some x) (hb:cE G n sc N b=some y) :
  SndI X (.Tuple es kk tp) (.Call (.Name f p) [a,b] [] pos) true (fun Z=>(aa call Z x).bind λx=>(aa call Z y).bind λy=>(bw x.2).bind λxs=>(fk y.2).bind λys=>some (bS xs ys)):=
 qMd hf (g.gl f hg) (lT g hG hf (by decide)) (by simp [fv ha,fv hb]) (A.e X sc N a x g ha).he (A.e X sc N b y g hb).he
theorem zD (A:AllE call G k n) (g:XG call G k X sc N) (hG:∀x∈bP,G.defs.lookup x=none) (hg:bf sc f=true) (hf:f=Qa "enumerate") (ha:cE G n sc N a=some x) :
  SndI X (.Tuple es kk tp) (.Call (.Name f p) [a] [] pos) true (fun Z=>(aa call Z x).bind λx=>(bw x.2).bind λxs=>some (cY 0 xs)):=
 qMt hf (g.gl f hg) (lT g hG hf (by decide)) (by simp [fv ha]) (A.e X sc N a x g ha).he
theorem qMb (A:AllE call G k n) (g:XG call G k X sc N) (hG:∀x∈bP,G.defs.lookup x=none) (hg:bf sc f=true) (hf:f=Qa "reversed") (hg':bf sc f'=true) (hf':f'=Qa "range") (h:eG G n sc N [a]=some xs) :
  SndI X tg (.Call (.Name f p) [.Call (.Name f' p') [a] [] pos'] [] pos) false (fun Z=>(bu call Z xs).bind gG):=by
 obtain⟨_,a2,a3,a4⟩:=A.a X sc N [a] xs g h
 exact qMj hf hf' (g.gl f hg) (lT g hG hf (by decide)) (g.gl f' hg') (lT g hG hf' (by decide)) a3 rfl a4 a2
theorem pH (h:eW sc N tg=some t) (h2:kh t=true):∃es kk tp,tg=.Tuple es kk tp:=by
 unfold eW at h
 split at h
 ·split at h
  ·rename_i x _ _
   cases hs:bQ N x with
   | none=>rw [hs] at h;cases h
   | some i=>rw [hs] at h;cases h;cases h2
  ·cases h
 ·exact⟨_,_,_,rfl⟩
 ·cases h
theorem pG (h:eU sc N tg=some t) (h2:kh t=true):eW sc N tg=some t:=by
 unfold eU at h
 cases ht:eW sc N tg with
 | some t'=>rw [ht] at h;exact h
 | none =>
  rw [ht] at h
  cases tg with
  | Tuple es kk pos =>
   have h:(cL (eX sc N) es).map Tg.many=some t:=h
   cases hx:cL (eX sc N) es with
   | none=>rw [hx] at h;cases h
   | some is=>rw [hx] at h;cases h;cases h2
  | _=>cases h
theorem qNM (h:cE G n sc N (.Name x p)=some (.v i)):ck sc N x=some i:=by
 cases n with
 | zero=>cases h
 | succ n =>
  have h:(match ck sc N x with|some i=>some (C.v i)|none=>jH G sc x)=some (.v i):=h
  cases hv:ck sc N x with
  | some j=>rw [hv] at h;cases h;rfl
  | none =>
   rw [hv] at h
   have h:jH G sc x=some (.v i):=h
   unfold jH at h
   split at h
   ·cases hc:G.cons.lookup x<;>(rw [hc] at h;cases h)
   ·cases h
theorem qLJ (g:XG call G k X sc N):X.A.units+20<cLine:=by
 have:=g.room.units
 omega
theorem qQK (hl:2<=es.length) (h:i7 G n sc N es=some c):∀i,c≠.v i:=by
 cases n with
 | zero=>cases h
 | succ n =>
  unfold i7 at h
  split at h
  ·simp at hl
  ·obtain⟨x,e1,e2⟩:=ae h
   obtain⟨y,e3,e4⟩:=ae e2
   cases e4
   exact λi z=>nomatch z
  ·cases h
theorem qRZ (hl:2<=es.length) (h:jG G n sc N es=some c):∀i,c≠.v i:=by
 cases n with
 | zero=>cases h
 | succ n =>
  unfold jG at h
  split at h
  ·simp at hl
  ·obtain⟨x,e1,e2⟩:=ae h
   obtain⟨y,e3,e4⟩:=ae e2
   cases e4
   exact λi z=>nomatch z
  ·cases h
variable {n:Nat}{elt:Expr}{gens:List Comprehension}{c:C}{pos:Pos} in
theorem Ai (hG:∀x∈bP,G.defs.lookup x=none) (A:AllE call G k n) (g:XG call G k X sc N) (h:cX G (n+1) sc N (.ListComp elt gens sc' pos)=some c):CoI call G k X sc sc' N elt gens c:=by
 obtain⟨tg,it,fs,rfl⟩:∃tg it fs,gens=[⟨tg,it,fs,0⟩]:=by
  cases gens with
  | nil=>cases h
  | cons a r =>
   obtain⟨tg,it,fs,k⟩:=a
   cases r with
   | cons b r=>cases k with
    | negSucc k=>cases h
    | ofNat k=>cases k<;>cases h
   | nil =>
    cases k with
    | negSucc k=>cases h
    | ofNat k =>
     cases k with
     | succ k=>cases h
     | zero=>exact⟨tg,it,fs,rfl⟩
 replace h:=(show (if pF sc' then _ else none)=some c from h)
 split at h
 ·rename_i hsc
  have S:=AN hsc
  obtain⟨t,e1,e2⟩:=ae h
  obtain⟨ks,e3,e4⟩:=ae e2
  obtain⟨ce,e5,e6⟩:=ae e4
  have he:∀X':Cx,XG call G k X' sc' (aP sc'++aG sc')->SndE call X' elt ce:=λX' g'=>(A.e X' sc' _ elt ce g' e5).he
  have hsr:=wC (sc:=sc) it
  generalize i9 sc it=q at e6 hsr
  obtain _|⟨cd,_|⟨_,_⟩⟩:=fs
  ·simp only at e6
   cases q with
   | seq s =>
    obtain⟨x,q1,q2⟩:=ae e6
    cases q2
    cases hsr
    refine⟨tg,it,none,t,ks,ce,true,_,rfl,⟨S,e1,e3,he,nofun,qJx A g q1,sQ q1 X.env⟩,fun Z r hr=>?_,nofun⟩
    obtain⟨y,r1,r2⟩:=ae hr
    obtain⟨its,r3,r4⟩:=ae r2
    obtain⟨ys,r5,r6⟩:=ae r4
    cases r6
    exact⟨its,ys,by simp only [r1];exact r3,r5,rfl,λz=>z rfl⟩
   | rng rs =>
    obtain⟨xs,q1,q2⟩:=ae e6
    cases q2
    cases hsr with
    | rng f p as pos2 hg hf hl =>
     refine⟨tg,_,none,t,ks,ce,false,_,rfl,⟨S,e1,e3,he,nofun,(zE (p:=p) (pos:=pos2) A g hG hg hf hl q1).c,λ_=>rfl⟩,fun Z r hr=>?_,nofun⟩
     obtain⟨y,r1,r2⟩:=ae hr
     obtain⟨its,r3,r4⟩:=ae r2
     split at r4
     ·rename_i hle
      obtain⟨ys,r5,r6⟩:=ae r4
      cases r6
      exact⟨its,ys,by simp only [r1];exact r3,r5,rfl,λ_=>hle⟩
     ·cases r4
   | zip a b =>
    simp only at e6
    split at e6
    ·rename_i h2
     obtain⟨x,q1,q2⟩:=ae e6
     obtain⟨y,q3,q4⟩:=ae q2
     cases q4
     obtain⟨es,kk,tp,rfl⟩:=pH (pG e1 h2) h2
     cases hsr with
     | zip f p a b pos2 hg hf =>
      refine⟨_,_,none,t,ks,ce,true,_,rfl,⟨S,e1,e3,he,nofun,(zH (p:=p) (pos:=pos2) A g hG hg hf q1 q3).c,λ_=>rfl⟩,fun Z r hr=>?_,nofun⟩
      obtain⟨z,r1,r2⟩:=ae hr
      obtain⟨z2,r3,r4⟩:=ae r2
      obtain⟨xs,r5,r6⟩:=ae r4
      obtain⟨ys,r7,r8⟩:=ae r6
      obtain⟨zs,r9,r10⟩:=ae r8
      cases r10
      exact⟨bS xs ys,zs,by simp only [r1,r3,r5,r7,dE],r9,rfl,λz=>z rfl⟩
    ·cases e6
   | rev rs=>cases e6
   | enm a =>
    simp only at e6
    split at e6
    ·rename_i h2
     obtain⟨x,q1,q2⟩:=ae e6
     cases q2
     obtain⟨es,kk,tp,rfl⟩:=pH (pG e1 h2) h2
     cases hsr with
     | enm f p a pos2 hg hf =>
      refine⟨_,_,none,t,ks,ce,true,_,rfl,⟨S,e1,e3,he,nofun,(zD (p:=p) (pos:=pos2) A g hG hg hf q1).c,λ_=>rfl⟩,fun Z r hr=>?_,nofun⟩
      obtain⟨z,r1,r2⟩:=ae hr
      obtain⟨xs,r5,r6⟩:=ae r2
      obtain⟨zs,r9,r10⟩:=ae r6
      cases r10
      exact⟨cY 0 xs,zs,by simp only [r1,r5,dE],r9,rfl,λz=>z rfl⟩
    ·cases e6
  ·obtain⟨cc,e7,e8⟩:=ae e6
   cases q with
   | seq s =>
    obtain⟨x,q1,q2⟩:=ae e8
    cases q2
    cases hsr
    refine⟨tg,it,some (cd,cc),t,ks,ce,true,_,rfl,⟨S,e1,e3,he,λp z X' g'=>by cases z;exact (A.e X' sc' _ cd cc g' e7).ht,(zG A g q1).c,sQ q1 X.env⟩,fun Z r hr=>?_,nofun⟩
    obtain⟨y,r1,r2⟩:=ae hr
    obtain⟨its,r3,r4⟩:=ae r2
    obtain⟨ys,r5,r6⟩:=ae r4
    cases r6
    exact⟨its,ys,by simp only [r1];exact r3,r5,rfl,λz=>z rfl⟩
   | _=>cases e8
  ·cases e6
 ·cases h
theorem qKG (hG:∀x∈bP,G.defs.lookup x=none) (A:AllE call G k n):AllE call G k (n+1):=by
 constructor
 ·intro X sc N e c g h
  have E:∀{e c},cE G n sc N e=some c->Ok call X e c:=λh=>A.e X sc N _ _ g h
  have gx:cX G n sc N e=some c->Ok call X e c:=λh=>(A.x X sc N _ c g h).1
  cases e with
  | Name x pos =>
   replace h:=(show (match ck sc N x with|some i=>some (C.v i)|none=>jH G sc x)=some c from h)
   cases hv:ck sc N x with
   | none =>
    rw [hv] at h
    obtain⟨h1,h2⟩:=qOB (call:=call) (pos:=pos) g h
    exact .of h1 (h1.test λ_=>rfl) h2
   | some i =>
    rw [hv] at h
    cases h
    obtain⟨h1,h2,h3⟩:=AR (call:=call) (pos:=pos) g hv
    exact⟨h1,h2,h1.test λ_=>rfl,h3,.inl ⟨_,_,rfl⟩⟩
  | Constant cc j pos =>
   obtain⟨d,hv,rfl⟩:=yac.mp h
   exact eO (Bg hv) (λ_=>rfl) rfl
  | BinOp a op b pos =>
   obtain⟨o,e1,e2⟩:=ae h
   obtain⟨x,e3,e4⟩:=ae e2
   obtain⟨y,e5,e6⟩:=ae e4
   cases e6
   exact eO (qMv (qPg e1) (E e3).hp (E e5).hp) (λ_=>rfl) rfl
  | UnaryOp op a pos =>
   cases op with
   | USub =>
    obtain⟨x,hx,rfl⟩:=yac.mp h
    exact eO (qMn (E hx).hp) (λ_=>rfl) rfl
   | Not =>
    obtain⟨x,hx,rfl⟩:=yac.mp h
    obtain⟨h1,h2⟩:=qMl (pos:=pos) (E hx).he (E hx).ht
    exact .of h1 h2 (fW rfl)
   | _=>exact gx h
  | BoolOp op es pos =>
   cases op with
   | And =>
    replace h:=(show (if 2<=es.length then i7 G n sc N es else none)=some c from h)
    split at h
    ·rename_i hl
     have h0:=A.w X sc N es c g h
     exact .of (h0 pos).1 h0.test (qQK hl h)
    ·cases h
   | Or =>
    replace h:=(show (if 2<=es.length then jG G n sc N es else none)=some c from h)
    split at h
    ·rename_i hl
     have h0:=A.v X sc N es c g h
     exact .of (h0 pos).1 h0.test (qRZ hl h)
    ·cases h
  | Compare a ops bs pos =>
   obtain _|⟨op,_|⟨_,_⟩⟩:=ops
   ·exact gx h
   ·obtain _|⟨b,_|⟨_,_⟩⟩:=bs
    ·exact gx h
    ·replace h:=(show (oC op b).elim _ _=some c from h)
     cases hi:oC op b with
     | some q =>
      rw [hi] at h
      obtain⟨j,p2,rfl,ho⟩:=qKg hi
      obtain⟨d,e1,e2⟩:=ae h
      obtain⟨x,e3,e4⟩:=ae e2
      cases e4
      obtain⟨h1,h2⟩:=qOz (pos:=pos) (pos':=p2) (j:=j) q.1 ho e1 (E e3).hp
      exact .of h1 h2 (fW rfl)
     | none =>
      rw [hi] at h
      obtain⟨o,e1,e2⟩:=ae h
      obtain⟨x,e3,e4⟩:=ae e2
      obtain⟨y,e5,e6⟩:=ae e4
      cases e6
      obtain⟨h1,h2⟩:=qMu (call:=call) (pos:=pos) (qNI (X:=X) (qLJ g) e1) (qNa e5 op) (λ_ _ _ hz=>qQk hz) (E e3).hp (E e5).hp
      exact .of h1 h2 (fW rfl)
    ·exact gx h
   ·exact gx h
  | Subscript a b pos =>
   replace h:=(show (oq b).elim _ _=some c from h)
   cases hi:oq b with
   | some q =>
    rw [hi] at h
    obtain⟨p2,rfl⟩:=qJF hi
    obtain⟨x,e1,e2⟩:=ae h
    obtain⟨l,e3,e4⟩:=ae e2
    obtain⟨u,e5,e6⟩:=ae e4
    cases e6
    exact eO (qOu (E e1).hp (A.o X sc N _ l g e3) (A.o X sc N _ u g e5)) (λ_=>rfl) rfl
   | none =>
    rw [hi] at h
    replace h:=(show (oI G sc a).elim _ _=some c from h)
    cases hd:oI G sc a with
    | some kvs =>
    rw [hd] at h
    obtain⟨y,e3,rfl⟩:=yac.mp h
    exact eO (qMf g hd (AI e3) (E e3).he) (λ_=>rfl) rfl
    | none =>
    rw [hd] at h
    obtain⟨x,e1,e2⟩:=ae h
    obtain⟨y,e3,e4⟩:=ae e2
    cases e4
    exact eO (qOy (AI e3) (E e1).hp (E e3).hp) (λ_=>rfl) rfl
  | Tuple es kk pos =>
   obtain⟨xs,hx,rfl⟩:=yac.mp h
   exact eO (qMe (A.a X sc N es xs g hx).1) (λ_=>rfl) rfl
  | List es pos =>
   obtain⟨xs,hx,rfl⟩:=yac.mp h
   exact eO (qMo (A.a X sc N es xs g hx).1) (λ_=>rfl) rfl
  | Call f as ks pos =>
   cases f with
   | Name f p =>
    obtain _|⟨_,_⟩:=ks
    ·replace h:=(show (if bf sc f&&eB f then oG G n sc N f as else (ck sc N f).bind λi=>(rm as).bind λa=>(cE G n sc N a).map (.cv i))=some c from h)
     split at h
     ·rename_i hf
      rw [aL] at hf
      obtain⟨h1,h2⟩:=A.f X sc N f as c p pos g hf.1 hf.2 h
      exact .of h1 (h1.test λ_=>rfl) h2
     ·obtain⟨i,hv,h⟩:=ae h
      obtain⟨a,ha,h⟩:=ae h
      obtain⟨ca,hc,rfl⟩:=yac.mp h
      obtain rfl:=qKC ha
      exact eO (qOC g hv (fv hc) (Bf (bK (fv hc)) (E hc).he AO)) (λ_=>rfl) rfl
    ·exact gx h
   | _=>exact gx h
  | IfExp t a b pos =>
   obtain⟨ct,e1,e2⟩:=ae h
   obtain⟨x,e3,e4⟩:=ae e2
   obtain⟨y,e5,e6⟩:=ae e4
   cases e6
   exact .of (qMq (E e1).ht (E e3).he (E e5).he) (qJB (E e1).ht (E e3).ht (E e5).ht) (fW rfl)
  | _=>exact gx h
 ·intro X sc N f es c p pos g hg hp h
  unfold oG at h
  split at h
  ·rename_i i hd
   split at h
   ·cases h
   ·rename_i hne
    obtain⟨xs,hx,rfl⟩:=yac.mp h
    obtain⟨a1,a2,a3,a4⟩:=A.a X sc N es xs g hx
    exact⟨qJE g hd hg (pN hp).2 a3 (by intro z;subst z;exact hne rfl) (A.ga X sc N es xs g hx),fW rfl⟩
  ·rename_i hd
   split at h
   ·rename_i u hu
    obtain⟨hu',rfl⟩:=qHX hu
    obtain⟨xs,hx,rfl⟩:=yac.mp h
    obtain⟨a1,a2,a3,a4⟩:=A.a X sc N es xs g hx
    exact⟨qOw g hu' hg (pN hp).2 a3 a1 a4,fW rfl⟩
   rename_i hnu
   split at h
   ·rename_i a t p2 hf
    split at h
    ·rename_i hq
     rw [aL] at hq
     obtain⟨ty,e1,e2⟩:=ae h
     obtain⟨x,e3,e4⟩:=ae e2
     cases e4
     have hdt:G.defs.lookup t=none:=by simpa using hq.2
     exact⟨qMp g (by simpa using hf) hd hdt hg hq.1 e1 (fv e3) (A.e X sc N a x g e3).hp,fW rfl⟩
    ·cases h
   ·rename_i as _ _ hf
    obtain⟨b,e1,e2⟩:=ae h
    obtain⟨xs,hx,rfl⟩:=yac.mp e2
    obtain⟨a1,a2,a3,a4⟩:=A.a X sc N as xs g hx
    exact⟨qHw g e1 hd hg hp a3 a2,fW rfl⟩
   ·cases h
 ·intro X sc N es cs g h
  unfold eG at h
  split at h
  ·cases h
   exact⟨AO,qHx,rfl,rfl⟩
  ·rename_i a r
   obtain⟨x,e1,e2⟩:=ae h
   obtain⟨xs,e3,e4⟩:=ae e2
   cases e4
   have h0:=A.e X sc N a x g e1
   obtain⟨a1,a2,a3,a4⟩:=A.a X sc N r xs g e3
   have hs:=bK (env:=X.env) (es:=r) (fv e1)
   exact⟨Bf hs h0.he a1,qGw hs h0.hp a2,by simp [fv e1];simpa using a3,by simp [a4]⟩
 ·intro X sc N e c g h
  unfold cO at h
  split at h
  ·cases h;exact qHt
  ·rename_i e
   obtain⟨x,hx,rfl⟩:=yac.mp h
   exact qHs (A.e X sc N e x g hx).hp
 ·intro X sc N e c g h
  cases e with
  | ListComp elt gens sc' pos =>
   have q:=Ai hG A g h
   have h1:=qJD (pos:=pos) g q
   obtain⟨_,_,_,_,_,_,_,_,_,_,_,nv⟩:=q
   exact⟨.of h1 (h1.test λ_=>rfl) nv,nv⟩
  | Attribute a f pos =>
   replace h:=(show (if jl a then _ else none)=some c from h)
   split at h
   ·rename_i hb
    obtain⟨j,e1,h⟩:=ae h
    obtain⟨x,e3,rfl⟩:=yac.mp h
    exact⟨eO (qMr hb (A.e X sc N a x g e3).he) (λ_=>rfl) rfl,fW rfl⟩
   ·cases h
  | Call f bs ks pos2 =>
   cases f with
   | Attribute a m p2 =>
    obtain _|⟨_,_⟩:=ks
    ·replace h:=(show (if jl a&&(p2.endLine == pos2.line)&&decide (bs.length<30) then _ else none)=some c from h)
     split at h
     ·rename_i hf
      rw [aL,aL] at hf
      obtain⟨⟨hb,hln⟩,h30⟩:=hf
      obtain⟨x,e1,h⟩:=ae h
      obtain⟨ys,e3,rfl⟩:=yac.mp h
      obtain⟨b1,b2,b3,b4⟩:=A.a X sc N bs ys g e3
      exact⟨eO (qOx g hb (A.e X sc N a x g e1).he b3 b4 hln (Qp h30) b1) (λ_=>rfl) rfl,fW rfl⟩
     ·cases h
    ·cases h
   | _=>cases h
  | _=>cases h
 ·intro X sc N es cs g h
  unfold eG at h
  split at h
  ·cases h
   exact qHv
  ·rename_i a r
   obtain⟨x,e1,e2⟩:=ae h
   obtain⟨xs,e3,e4⟩:=ae e2
   cases e4
   exact qGv (bK (env:=X.env) (es:=r) (fv e1)) (A.e X sc N a x g e1).hg (A.ga X sc N r xs g e3)
 ·intro X sc N es c g h
  unfold i7 at h
  split at h
  ·rename_i a
   have h0:=A.e X sc N a c g h
   exact zB h0.he h0.ht
  ·rename_i a b r
   obtain⟨x,e1,e2⟩:=ae h
   obtain⟨y,e3,e4⟩:=ae e2
   cases e4
   have h0:=A.e X sc N a x g e1
   exact qMx h0.he h0.ht (A.w X sc N (b::r) y g e3)
  ·cases h
 ·intro X sc N es c g h
  unfold jG at h
  split at h
  ·rename_i a
   have h0:=A.e X sc N a c g h
   exact zB h0.he h0.ht
  ·rename_i a b r
   obtain⟨x,e1,e2⟩:=ae h
   obtain⟨y,e3,e4⟩:=ae e2
   cases e4
   have h0:=A.e X sc N a x g e1
   exact qOv h0.he h0.ht (A.v X sc N (b::r) y g e3)
  ·cases h
theorem jk (hG:∀x∈bP,G.defs.lookup x=none):∀n,AllE call G k n
 | 0=>qKF
 | n+1=>qKG hG (jk hG n)
end
end Dw
namespace Dw
open PySem PySem.Spec PyProof.Rows L2
section
variable {call:Nat->List D->Option R}{G:Gx}{k:Nat}{X:Cx}{sc sc':Scope}{N:List Str}
theorem qHi (elt:Expr) (gens:List Comprehension) (sc':Scope) (pos py:Pos) (x:Str) (ln:Nat) (env:Env):∃b:Bool,swapsWith (.ListComp elt gens sc' pos) (some (.Name x py)) ln env=pure b:=⟨_,rfl⟩
theorem qNT (hG:∀x∈bP,G.defs.lookup x=none) (g:XG call G k X sc N) (h:cE G n sc N e=some c) (hx:(sc.names.lookup x == some .local||sc.names.lookup x == some .cell)=true) (hsl:bQ N x=some i) :
  ∃t:TS,PS X (.Assign [.Name x py] e spos) t/\∀(Ge:Gp) (H:Hp) (F:Fz) (Z:En) (τ:L2.St) (r:R) (Dn:Ends),aa call Z c=some r->SR X.K Ge H F Z τ->(∀v H' F',Gr H F H' F'->RR X.K H H' F' r v->Dn.nx (τ.set i (some v)) H')->t Dn τ H:=by
 obtain⟨l1,l2⟩:=ku g hx
 have plain:swapsWith e (some (.Name x py)) spos.line X.env=pure false->∃t:TS,PS X (.Assign [.Name x py] e spos) t/\∀(Ge:Gp) (H:Hp) (F:Fz) (Z:En) (τ:L2.St) (r:R) (Dn:Ends),aa call Z c=some r->SR X.K Ge H F Z τ->(∀v H' F',Gr H F H' F'->RR X.K H H' F' r v->Dn.nx (τ.set i (some v)) H')->t Dn τ H:=λhs=>by
  obtain⟨te,pe,qe⟩:=((jk (call:=call) (k:=k) hG n).e X sc N e c g h).he
  exact⟨_,qOT (i:=i) (by rw [g.hN];exact g.nd) (by rw [g.hN];exact gX hsl) l1 pe hs l2,λGe H F Z τ r Dn h1 h2 h3=>qe Ge H F Z τ r _ h1 h2 h3⟩
 cases n with
 | zero=>cases h
 | succ n =>
  cases e with
  | ListComp elt gens sc' pos =>
   obtain⟨b,hb⟩:=qHi elt gens sc' pos py x spos.line X.env
   cases b with
   | false=>exact plain hb
   | true =>
    cases n with
    | zero=>cases h
    | succ n =>
     exact⟨_,qKB g (Ai hG (jk (call:=call) (k:=k) hG n) g h) hx hsl hb,λGe H F Z τ r Dn h1 h2 h3=>⟨Ge,F,Z,r,h1,h2,h3⟩⟩
  | SetComp _ _ _ _=>(cases n<;>cases h)
  | DictComp _ _ _ _ _=>(cases n<;>cases h)
  | _=>exact plain rfl
def EndsOk (K:Qb) (Ge:Gp) (F0:Fz) (H:Hp) (F:Fz) (o:Ou) (Dn:Ends):Prop:=match o with
 | .nx Z'=>∀τ' H' F',Keep H F H' F'->Gr Ge F0 H' F'->SR K Ge H' F' Z' τ'->Dn.nx τ' H'
 | .rt r=>∀v H' F',Gr Ge F0 H' F'->RR K Ge H' F' r v->Dn.rt v H'
 | .bk Z'=>∀τ' H' F',Keep H F H' F'->Gr Ge F0 H' F'->SR K Ge H' F' Z' τ'->Dn.bk τ' H'
 | .ct Z'=>∀τ' H' F',Keep H F H' F'->Gr Ge F0 H' F'->SR K Ge H' F' Z' τ'->Dn.ct τ' H'
theorem EndsOk.mv {K:Qb}{Ge:Gp}{F0:Fz}{H H1:Hp}{F F1:Fz}{o:Ou}{Dn:Ends}(h:EndsOk K Ge F0 H F o Dn) (k:Keep H F H1 F1):EndsOk K Ge F0 H1 F1 o Dn:=by
 cases o with
 | nx Z'=>exact fun τ' H' F' k' g s=>h τ' H' F' (k.trans k') g s
 | rt r=>exact h
 | bk Z'=>exact fun τ' H' F' k' g s=>h τ' H' F' (k.trans k') g s
 | ct Z'=>exact fun τ' H' F' k' g s=>h τ' H' F' (k.trans k') g s
variable (call X) in
def iw (st:List Stmt) (cs:List S):Prop:=∃t:TS,PSs X st t/\∀(Ge:Gp) (F0:Fz) (H:Hp) (F:Fz) (Z:En) (τ:L2.St) (o:Ou) (Dn:Ends),af call Z cs=some o->SR X.K Ge H F Z τ->Gr Ge F0 H F->EndsOk X.K Ge F0 H F o Dn->t Dn τ H
variable (call X) in
def fq (st:Stmt) (cs:List S):Prop:=∃t:TS,PS X st t/\∀(Ge:Gp) (F0:Fz) (H:Hp) (F:Fz) (Z:En) (τ:L2.St) (o:Ou) (Dn:Ends),af call Z cs=some o->SR X.K Ge H F Z τ->Gr Ge F0 H F->EndsOk X.K Ge F0 H F o Dn->t Dn τ H
theorem qFf (cx cy:List S):∀Z:En,af call Z (cx++cy)=(af call Z cx).bind (rK fun Z'=>af call Z' cy):=by
 induction cx with
 | nil=>intro Z;rfl
 | cons a r ih =>
  intro Z
  rw [List.cons_append,dY,dY]
  rcases bW call Z a with _|(Z1|r1|Z1|Z1)
  ·rfl
  ·exact ih Z1
  ·rfl
  ·rfl
  ·rfl
theorem qMm:iw call X [] []:=⟨_,zV,λGe F0 H F Z τ o Dn h s g e=>by cases h;exact e τ H F Keep.refl g s⟩
theorem qJC {st:Stmt}{rest:List Stmt}{cx cy:List S}(h1:fq call X st cx) (h2:iw call X rest cy):iw call X (st::rest) (cx++cy):=by
 obtain⟨t1,p1,q1⟩:=h1
 obtain⟨t2,p2,q2⟩:=h2
 refine⟨_,AJ p1 p2,λGe F0 H F Z τ o Dn h s g e=>?_⟩
 rw [qFf] at h
 obtain⟨o1,e1,e2⟩:=ae h
 cases o1 with
 | nx Z1=>exact q1 Ge F0 H F Z τ (.nx Z1) { Dn with nx:=t2 Dn } e1 s g fun τ' H' F' k' g' s'=>q2 Ge F0 H' F' Z1 τ' o Dn e2 s' g' (e.mv k')
 | rt r=>cases e2;exact q1 Ge F0 H F Z τ (.rt r) { Dn with nx:=t2 Dn } e1 s g e
 | bk Z1=>cases e2;exact q1 Ge F0 H F Z τ (.bk Z1) { Dn with nx:=t2 Dn } e1 s g e
 | ct Z1=>cases e2;exact q1 Ge F0 H F Z τ (.ct Z1) { Dn with nx:=t2 Dn } e1 s g e
theorem SR.frz1 {K:Qb}{Ge:Gp}{H:Hp}{F F0:Fz}{Z:En}{τ:L2.St}(s:SR K Ge H F Z τ) (g:Gr Ge F0 H F) (i:Nat):∃F',SR K Ge H F' (Dw.frz1 Z i) τ/\Keep H F H F'/\Gr Ge F0 H F':=by
 unfold Dw.frz1
 split
 ·rename_i ds0 hd
  obtain⟨a,ds,vs,eq0,h2,h3,h4,h5,h6⟩:=s.own i _ hd rfl
  cases eq0
  have kp:Keep H F H (λb=>b=a∨F b):=⟨λ_ _ h=>h,λ_ _ f h=>⟨.inr f,h⟩,λ_ _ _ _ h=>h,λ_ _ _ h=>h⟩
  refine⟨λb=>b=a∨F b,?_,kp,⟨g.same,λb f=>.inr (g.sub b f),λb f=>f.elim (λz=>.inr (z▸h3)) (g.new b),λb e f=>f.elim (λz=>by subst z;rw [h5] at e;cases e) (g.dom b e)⟩⟩
  have hl:=fJ hd
  refine⟨by simp [s.len],s.ent,λb e f=>f.elim (λz=>by subst z;rw [h5] at e;cases e) (s.dom b e),λj e hj=>?_,λj e hj hde=>?_,λj l e e' hj hl' hjl=>?_,λj m ks hj=>?_,λp e hp hj=>?_⟩
  ·by_cases hij:i=j
   ·subst hij
    rw [ei hl] at hj
    cases hj
    exact⟨.ref a,h2,a,vs,rfl,.inl ⟨.inl rfl,.inl h5⟩,RDs.mono kp h6⟩
   ·rw [cC hij] at hj
    obtain⟨v,q1,q2⟩:=s.val j e hj
    exact⟨v,q1,RD.mono kp q2⟩
  ·have hij:i≠j:=λz=>by subst z;rw [ei hl] at hj;cases hj
   rw [cC hij] at hj
   obtain⟨a',ds',vs',p1,p2,p3,p4,p5,p6⟩:=s.own j e hj hde
   refine⟨a',ds',vs',p1,p2,p3,λf=>f.elim (λz=>?_) p4,p5,RDs.mono kp p6⟩
   subst z
   exact hij (s.sep i j _ _ hd hj (by rw [h2,p2]))
  ·have ne:∀{j:Nat} {e:D},ar (Z.set i (some (false,.lst ds0))) j=some (true,e)->i≠j:=λ{j e} hj z=>by subst z;rw [ei hl] at hj;cases hj
   have n1:=ne hj
   have n2:=ne hl'
   rw [cC n1] at hj
   rw [cC n2] at hl'
   exact s.sep j l e e' hj hl' hjl
  ·have hij:i≠j:=λz=>by subst z;rw [ei hl] at hj;cases hj
   rw [cC hij] at hj
   obtain⟨a',p1,p2,p3,p4⟩:=s.dct j m ks hj
   refine⟨a',p1,λf=>f.elim (λz=>?_) p2,p3,p4⟩
   subst z
   rw [h5] at p3
   cases p3
  ·have hij:i≠0:=λz=>by subst z;rw [ei hl] at hj;cases hj
   rw [cC hij] at hj
   exact s.pin p e hp hj
 ·exact⟨F,s,Keep.refl,g⟩
theorem SR.frzs {K:Qb}{Ge:Gp}{H:Hp}{F0:Fz}{τ:L2.St}:∀(js:List Nat) {Z:En}{F:Fz},SR K Ge H F Z τ->Gr Ge F0 H F->∃F',SR K Ge H F' (js.foldl Dw.frz1 Z) τ/\Keep H F H F'/\Gr Ge F0 H F'
 | [],Z,F,s,g=>⟨F,s,Keep.refl,g⟩
 | j::js,Z,F,s,g=>by
  obtain⟨F1,s1,k1,g1⟩:=SR.frz1 s g j
  obtain⟨F2,s2,k2,g2⟩:=SR.frzs js s1 g1
  exact⟨F2,s2,k1.trans k2,g2⟩
theorem fV {st:Stmt}{mt is:List Nat}{s:S}(h:fq call X st [s]):fq call X st (fu mt is s):=by
 unfold fu
 split
 ·exact h
 ·obtain⟨t,p,q⟩:=h
  refine⟨t,p,λGe F0 H F Z τ o Dn hv hs g e=>?_⟩
  obtain⟨F',s',k',g'⟩:=SR.frzs (is.filter (mt.contains ·)) hs g
  exact q Ge F0 H F' _ τ o Dn hv s' g' (e.mv k')
end
end Dw
namespace Dw
open PySem PySem.Spec PyProof.Rows L2
section
variable {call:Nat->List D->Option R}{G:Gx}{k:Nat}{X:Cx}{sc sc':Scope}{N:List Str}
theorem gW (Z:En) (s:S):af call Z [s]=bW call Z s:=by
 rw [dY]
 rcases bW call Z s with _|(_|_|_|_)<;>rfl
theorem SR.bindOwn {K:Qb}{Ge:Gp}{H H1:Hp}{F F1:Fz}{Z:En}{τ:L2.St}{i:Nat}{d:D}{v:V}(h0:i≠0) (s0:SR K Ge H F Z τ) (s:SR K Ge H1 F1 Z τ) (h:RR K H H1 F1 (true,d) v):SR K Ge H1 F1 (Z.set i (some (true,d))) (τ.set i (some v)):=by
 obtain⟨a,ds,vs,rfl,rfl,h3,h4,h5,h6⟩:=h
 have hne:∀{j:Nat} {e:D} {a':Addr},ar Z j=some (true,e)->τ[j]?=some (some (.ref a'))->a'≠a:=λ{j e a'} hj ht z=>by
  obtain⟨b,u,q2,_,q5⟩:=s0.addr hj
  rw [ht] at q2
  cases q2
  subst z
  rw [h3] at q5
  cases q5
 refine⟨by simp [s.len],s.ent,s.dom,λj e hj=>?_,λj e hj hde=>?_,λj l e e' hj hl hjl=>?_,λj m ks hj=>?_,λp e hp hj=>?_⟩
 ·have hij:i≠j:=λz=>by
   subst z
   rw [ei (by simpa using fJ hj)] at hj
   cases hj
  rw [cC hij] at hj
  obtain⟨u,q1,q2⟩:=s.val j e hj
  exact⟨u,by rw [bU hij];exact q1,q2⟩
 ·by_cases hij:i=j
  ·subst hij
   have hl:i<Z.length:=by simpa using fJ hj
   rw [ei hl] at hj
   cases hj
   exact⟨a,ds,vs,rfl,by rw [jW (by rw [<-s.len];exact hl)],s0.ent.free h3,h4,h5,h6⟩
  ·rw [cC hij] at hj
   obtain⟨a',ds',vs',q1,q2,q3⟩:=s.own j e hj hde
   exact⟨a',ds',vs',q1,by rw [bU hij];exact q2,q3⟩
 ·by_cases n1:i=j
  ·by_cases n2:i=l
   ·rw [<-n1,<-n2]
   ·subst n1
    have hl':i<Z.length:=by simpa using fJ hj
    rw [cC n2] at hl
    obtain⟨b,u,q2,_⟩:=s.addr hl
    rw [jW (by rw [<-s.len];exact hl'),bU n2,q2] at hjl
    cases hjl
    exact Qn rfl (hne hl q2)
  ·rw [cC n1] at hj
   by_cases n2:i=l
   ·subst n2
    have hl':i<Z.length:=by simpa using fJ hl
    obtain⟨b,u,q2,_⟩:=s.addr hj
    rw [jW (by rw [<-s.len];exact hl'),bU n1,q2] at hjl
    cases hjl
    exact Qn rfl (hne hj q2)
   ·rw [cC n2] at hl
    rw [bU n1,bU n2] at hjl
    exact s.sep j l e e' hj hl hjl
 ·have hij:i≠j:=λz=>by
   subst z
   rw [ei (by simpa using fJ hj)] at hj
   cases hj
  rw [cC hij] at hj
  obtain⟨a',q1,q2⟩:=s.dct j m ks hj
  exact⟨a',by rw [bU hij];exact q1,q2⟩
 ·rw [cC h0] at hj
  rw [bU h0]
  exact s.pin p e hp hj
theorem qMg (hG:∀x∈bP,G.defs.lookup x=none) (g:XG call G k X sc N) (h0:keep=true->i≠0) (h:cE G n sc N e=some c) (hx:(sc.names.lookup x == some .local||sc.names.lookup x == some .cell)=true) (hsl:bQ N x=some i) :
  fq call X (.Assign [.Name x py] e spos) [.set i keep c]:=by
 obtain⟨t,p,q⟩:=qNT (py:=py) (spos:=spos) hG g h hx hsl
 refine⟨t,p,λGe F0 H F Z τ o Dn hv hs gr en=>?_⟩
 rw [gW,zb] at hv
 obtain⟨r,e1,e2⟩:=ae hv
 cases e2
 refine q Ge H F Z τ r Dn e1 hs λv H' F' g' rr=>?_
 obtain⟨b,d⟩:=r
 have froz:jh keep (b,d)=(false,d)->Dn.nx (τ.set i (some v)) H':=λhk=>by
  obtain⟨F2,g2,rd⟩:=rr.fz g'
  have en':∀τ' H' F',Keep H F H' F'->Gr Ge F0 H' F'->SR X.K Ge H' F' (Z.set i (some (jh keep (b,d)))) τ'->Dn.nx τ' H':=en
  rw [hk] at en'
  exact en' _ H' F2 g2.keep (gr.trans g2) ((hs.grow g2).bind rd)
 cases b with
 | false=>exact froz (by cases keep<;>rfl)
 | true =>
  cases keep with
  | false=>exact froz rfl
  | true=>exact en _ H' F' g'.keep (gr.trans g') (SR.bindOwn (h0 rfl) hs (hs.grow g') rr)
theorem mw (h:H a=some (.lst vs)) (hf:¬F a):Keep H F (ay H a (.lst ws)) F:=⟨λp xs q=>by
  have ne:p≠a:=λz=>by subst z;rcases q with q|⟨o,q⟩<;>(rw [h] at q;cases q)
  rcases q with q|⟨o,q⟩
  ·exact .inl (by rw [aD ne];exact q)
  ·exact .inr ⟨o,by rw [aD ne];exact q⟩,λp xs f q=>by
  have ne:p≠a:=λz=>by subst z;exact hf f
  refine⟨f,?_⟩
  rcases q with q|⟨o,q⟩
  ·exact .inl (by rw [aD ne];exact q)
  ·exact .inr ⟨o,by rw [aD ne];exact q⟩,λp C dx fs q=>by rw [aD (λz=>by subst z;rw [h] at q;cases q)];exact q,λp o u q=>by rw [aD (λz=>by subst z;rw [h] at q;cases q)];exact q⟩
theorem kB (g:Gr Ge F0 H F) (h:H a=some (.lst vs)) (hg:Ge a=none):Gr Ge F0 (ay H a (.lst ws)) F:=⟨λb o e=>by rw [aD (bY e hg)];exact g.same b o e,g.sub,g.new,λb e=>by
  by_cases z:b=a
  ·subst z;rw [cD] at e;cases e
  ·rw [aD z] at e;exact g.dom b e⟩
theorem o9 {K:Qb}{Ge:Gp}{H:Hp}{F0 F:Fz}{Z:En}{τ:L2.St}{i:Nat}{a:Addr}{ds es:List D}{vs ws:List V}(s:SR K Ge H F Z τ) (g:Gr Ge F0 H F) (hi:ar Z i=some (true,.lst ds)) (ht:τ[i]?=some (some (.ref a))) (hg:Ge a=none) (hf:¬F a) (h:H a=some (.lst vs)) (r:RDs K H F es ws) :
  SR K Ge (ay H a (.lst ws)) F (Z.set i (some (true,.lst es))) τ:=by
 have kp:=mw (ws:=ws) h hf
 have hl:=fJ hi
 refine⟨by simp [s.len],(kB (ws:=ws) g h hg).same,(kB (ws:=ws) g h hg).dom,λj e hj=>?_,λj e hj hde=>?_,λj l e e' hj hl' hjl=>?_,λj m ks hj=>?_,λp e hp hj=>?_⟩
 ·have hij:i≠j:=λz=>by subst z;rw [ei hl] at hj;cases hj
  rw [cC hij] at hj
  obtain⟨v,q1,q2⟩:=s.val j e hj
  exact⟨v,q1,RD.mono kp q2⟩
 ·by_cases hij:i=j
  ·subst hij
   rw [ei hl] at hj
   cases hj
   exact⟨a,es,ws,rfl,ht,hg,hf,cD,RDs.mono kp r⟩
  ·rw [cC hij] at hj
   obtain⟨a',ds',vs',p1,p2,p3,p4,p5,p6⟩:=s.own j e hj hde
   have ne:a'≠a:=λz=>by subst z;exact hij (s.sep i j _ _ hi hj (by rw [ht,p2]))
   exact⟨a',ds',vs',p1,p2,p3,p4,by rw [aD ne];exact p5,RDs.mono kp p6⟩
 ·have back:∀{j:Nat} {e:D},ar (Z.set i (some (true,.lst es))) j=some (true,e)->∃e',ar Z j=some (true,e'):=λ{j e} hj=>by
   by_cases hij:i=j
   ·subst hij;exact⟨_,hi⟩
   ·rw [cC hij] at hj;exact⟨e,hj⟩
  obtain⟨_,b1⟩:=back hj
  obtain⟨_,b2⟩:=back hl'
  exact s.sep j l _ _ b1 b2 hjl
 ·have hij:i≠j:=λz=>by subst z;rw [ei hl] at hj;cases hj
  rw [cC hij] at hj
  obtain⟨a',p1,p2,p3,p4⟩:=s.dct j m ks hj
  have ne:a'≠a:=λz=>by subst z;rw [h] at p3;cases p3
  exact⟨a',p1,p2,by rw [aD ne];exact p3,p4⟩
 ·by_cases hij:i=0
  ·subst hij;exact s.pin p _ hp hi
  ·rw [cC hij] at hj;exact s.pin p e hp hj
theorem ju {K:Qb}{Ge:Gp}{H:Hp}{F:Fz}{Z:En}{τ:L2.St}{i:Nat}{ds:List D}(s:SR K Ge H F Z τ) (h:ar Z i=some (true,.lst ds)):∃a vs,τ[i]?=some (some (.ref a))/\Ge a=none/\¬F a/\H a=some (.lst vs)/\RDs K H F ds vs:=by
 obtain⟨a,ds',vs,e,h2,h3,h4,h5,h6⟩:=s.own i _ h rfl
 cases e
 exact⟨a,vs,h2,h3,h4,h5,h6⟩
theorem qMw {n:Nat}(A:AllE call G k n) (g:XG call G k X sc N) {x m:Str}{i:Nat}{p p2 p3 spos:Pos}{e:Expr}{c:C}(hm:m=Qa "append") (hln:(p2.endLine == p3.line)=true) (hv:ck sc N x=some i) (h:cE G n sc N e=some c) :
  fq call X (.Expr (.Call (.Attribute (.Name x p) m p2) [e] [] p3) spos) [.app i c]:=by
 subst hm
 obtain⟨h1,h2,h3,h4⟩:=jq g hv
 obtain⟨te,pe,qe⟩:=(A.e X sc N e c g h).he
 have pn:PE X (.Name x p) (ou i):=gT h1 h2 h3 h4
 have hst:=bK (env:=X.env) (es:=[]) (fv h)
 refine⟨_,zU (xG qE PySem.F.slot_list_append PySem.F.type_list_append Bc pn (fw pe gS hst) (hfew:=by rw [hst];rfl) (hline:=hln) (hs:=hst)),λGe F0 H F Z τ o Dn hvv hs gr en=>?_⟩
 rw [gW,yZ] at hvv
 obtain⟨r,e1,e2⟩:=ae hvv
 unfold gK at e2
 split at e2
 ·rename_i xs hg
  split at e2
  ·rename_i hlt
   cases e2
   obtain⟨a,vs,q1,q2,q3,q4,q5⟩:=ju hs hg
   refine⟨.ref a,q1,.inl ⟨rfl,_,SqL.of q4⟩,?_⟩
   refine qe Ge H F Z τ r _ e1 hs λv H1 F1 g1 rr=>?_
   obtain⟨F2,g2,rd⟩:=rr.fz g1
   have s2:=hs.grow g2
   obtain⟨a',vs',q1',q2',q3',q4',q5'⟩:=ju s2 hg
   rw [q1] at q1'
   cases q1'
   have gr2:=gr.trans g2
   refine⟨a,vs',v,rfl,rfl,q4',by rw [RDs.length q5'];exact hlt,?_⟩
   exact en _ _ F2 (g2.keep.trans (mw q4' q3')) (kB gr2 q4' q2') (o9 s2 gr2 hg q1 q2' q3' q4' (RDs.append q5' ⟨v,[],rfl,rd,rfl⟩))
  ·cases e2
 ·cases e2
section
open AutoSeq1
theorem qNt (l:Addr) (items:Array Value) (n:Nat) (b:Addr) (items2:Array Value) (n2:Nat) (dd:Option Addr) (sl:Array (Option Value)) (hs0:¬(!items.isEmpty&&Builtin.List.listTooLong (items.size+items2.size))=true) (hs1:items.size<=sizeLine) (hs2:items.size+items2.size<=sizeLine+1) :
  Meets (Builtin.«list.extend» ⟨[.ref l,.ref b],[]⟩) (λ_ R s=>s.heap.get? l=some { cls:=.type "list",dict:=none,data:=.seq items n,slots:=#[] }/\s.heap.get? b=some { cls:=.type "tuple",dict:=dd,data:=.seq items2 n2,slots:=sl }/\R (.ok (.ret Value.none)) { s with heap:=s.heap.update l (Obj.mapSeq λx=>x++items2),toks:=s.toks }):=
 .of_wp λprog w A R s h=>by
  obtain⟨hp,g,d,tk,os⟩:=s;obtain⟨hl,hb,h⟩:=h;have f1:=idx_int;have f2:=AutoSeq1.sub_tuple_tuple;have f3:=AutoSeq1.sub_list_list;have f4:=AutoSeq1.sub_tuple_list;have f5:=AutoSeq1.sub_list_tuple
  have hz':(items++items2).size<=sizeLine+1:=by rw [Array.size_append];exact hs2
  wp_walk using (wpAny_updateSeq hl rfl (hz:=hs1) (_hz':=hz')),wpAny_loadPart' hl,wpAny_loadPart' hb;exact⟨_,rfl,h⟩
end
theorem qPf {id:String}{r r':V->List V->Hp->VK->Prop}(h:jJ X id r) (h':jJ X id r'):jJ X id (λx vs H Q=>r x vs H Q∨r' x vs H Q):=
 λpins s Z H x vs v us Q I rx rv z=>z.elim (h pins s Z H x vs v us Q I rx rv) (h' pins s Z H x vs v us Q I rx rv)
theorem qNf:jJ X "list.extend" (λx vs H Q=>∃l b xs zs,x=.ref l/\vs=[.ref b]/\H l=some (.lst xs)/\SqT X.K H b zs/\xs.length+zs.length<=sizeLine/\Q .non (ay H l (.lst (xs++zs)))):=by
 intro pins s Z H x vs v us Q I rx rv h
 obtain⟨l,b,xs,zs,rfl,rfl,hH,hB,hz,q⟩:=h
 cases rx
 obtain⟨u,rfl,ru⟩:=fH rv
 cases ru
 obtain⟨z,its,n,r,hl,e⟩:=I.lstM hH
 obtain⟨its2,r2,⟨⟨cls,dd,data,sl⟩,e2,hc2,n2,hd2⟩,z2⟩:=I.tuple hB
 simp only at hc2 hd2
 subst hc2 hd2
 have hl2:=r2.length
 have hsz:its.toArray.size+its2.toArray.size<=sizeLine:=by rw [aZ,aZ];omega
 have hlong:¬(!its.toArray.isEmpty&&Builtin.List.listTooLong (its.toArray.size+its2.toArray.size))=true:=by
  rw [sY hsz,jS]
  exact fg
 refine call_meets F.slot_list_extend ⟨_,e,rfl⟩ F.entry_list_extend (F.args_list_extend_2 _ _)
  (qNt l its.toArray n b its2.toArray n2 dd sl hlong (by rw [aZ];omega) (by omega)) ⟨e,e2,?_⟩
 refine⟨.non,_,I.lset (its':=its++its2) hH e (by simp) (r.append r2) ?_,rfl,q⟩
 rw [ik]
 omega
theorem qMs (A:AllE call G k n) (g:XG call G k X sc N) {x m:Str}{i:Nat}{p p2 p3 spos:Pos}{e:Expr}{c:C}(hm:m=Qa "extend") (hln:(p2.endLine == p3.line)=true) (hv:ck sc N x=some i) (h:cE G n sc N e=some c) :
  fq call X (.Expr (.Call (.Attribute (.Name x p) m p2) [e] [] p3) spos) [.ext i c]:=by
 subst hm
 obtain⟨h1,h2,h3,h4⟩:=jq g hv
 obtain⟨te,pe,qe⟩:=(A.e X sc N e c g h).he
 have pn:PE X (.Name x p) (ou i):=gT h1 h2 h3 h4
 have hst:=bK (env:=X.env) (es:=[]) (fv h)
 refine⟨_,zU (xG qE PySem.F.slot_list_extend PySem.F.type_list_extend (qPf qHU qNf) pn (fw pe gS hst) (hfew:=by rw [hst];rfl) (hline:=hln) (hs:=hst)),λGe F0 H F Z τ o Dn hvv hs gr en=>?_⟩
 rw [gW,sy] at hvv
 obtain⟨r,e1,e2⟩:=ae hvv
 unfold oB at e2
 split at e2
 ·rename_i ys
  split at e2
  ·rename_i xs hg
   split at e2
   ·rename_i hlt
    cases e2
    obtain⟨a,vs,q1,q2,q3,q4,q5⟩:=ju hs hg
    refine⟨.ref a,q1,.inl ⟨rfl,_,SqL.of q4⟩,?_⟩
    refine qe Ge H F Z τ _ _ e1 hs λv H1 F1 g1 rr=>?_
    have rr0:=rr
    obtain⟨b,ds,ws,ed,rfl,r1,r2,r3,r4⟩:=rr0
    cases ed
    have s2:=hs.grow g1
    obtain⟨a',vs',q1',q2',q3',q4',q5'⟩:=ju s2 hg
    rw [q1] at q1'
    cases q1'
    have gr2:=gr.trans g1
    refine .inl ⟨a,b,vs',ws,rfl,rfl,q4',r3,by rw [RDs.length q5',RDs.length r4];exact hlt,?_⟩
    exact en _ _ F1 (g1.keep.trans (mw q4' q3')) (kB gr2 q4' q2') (o9 s2 gr2 hg q1 q2' q3' q4' (RDs.append q5' r4))
   ·cases e2
  ·cases e2
 ·rename_i ys
  split at e2
  ·rename_i xs hg
   split at e2
   ·rename_i hlt
    cases e2
    obtain⟨a,vs,q1,q2,q3,q4,q5⟩:=ju hs hg
    refine⟨.ref a,q1,.inl ⟨rfl,_,SqL.of q4⟩,?_⟩
    refine qe Ge H F Z τ _ _ e1 hs λv H1 F1 g1 rr=>?_
    obtain⟨b,ws,rfl,r3,r4⟩:=rr
    have s2:=hs.grow g1
    obtain⟨a',vs',q1',q2',q3',q4',q5'⟩:=ju s2 hg
    rw [q1] at q1'
    cases q1'
    have gr2:=gr.trans g1
    refine .inr ⟨a,b,vs',ws,rfl,rfl,q4',r3,by rw [RDs.length q5',RDs.length r4];exact hlt,?_⟩
    exact en _ _ F1 (g1.keep.trans (mw q4' q3')) (kB gr2 q4' q2') (o9 s2 gr2 hg q1 q2' q3' q4' (RDs.append q5' r4))
   ·cases e2
  ·cases e2
 ·cases e2
theorem RDs.last {K:Qb}{H:Hp}{F:Fz}{ds:List D}{vs:List V}{d:D}(h:RDs K H F ds vs) (e:ds.getLast?=some d):∃v,vs[vs.length - 1]?=some v/\RD K H F d v:=by
 rw [List.getLast?_eq_getElem?] at e
 obtain⟨v,e1,e2⟩:=RDs.get h e
 exact⟨v,by rw [RDs.length h];exact e1,e2⟩
theorem RDs.init {K:Qb}{H:Hp}{F:Fz}{ds:List D}{vs:List V}(h:RDs K H F ds vs):RDs K H F ds.dropLast vs.dropLast:=by
 rw [List.dropLast_eq_take,List.dropLast_eq_take,RDs.length h]
 exact RDs.take _ h
theorem zC (g:XG call G k X sc N) (hm:m=Qa "pop") (hln:(p2.endLine == p3.line)=true) (ht:eU sc N tg=some t) (hv:ck sc N x=some i) (h1':swapsWithSole [tg] (.Call (.Attribute (.Name x p) m p2) [] [] p3) spos.line X.env=pure false) (h2':swappedStores [tg] (.Call (.Attribute (.Name x p) m p2) [] [] p3) X.env=pure none) (h3':(assignEach [tg] X.env).map (·.2)=[assign tg X.env]) :
  fq call X (.Assign [tg] (.Call (.Attribute (.Name x p) m p2) [] [] p3) spos) [.pop t i]:=by
 subst hm
 obtain⟨h1,h2,h3,h4⟩:=jq g hv
 have pn:PE X (.Name x p) (ou i):=gT h1 h2 h3 h4
 refine⟨_,qOW (qPa qE PySem.F.slot_list_pop PySem.F.type_list_pop qPD pn (hline:=hln)) (sH g ht) h1' h2' h3',λGe F0 H F Z τ o Dn hvv hs gr en=>?_⟩
 rw [gW,qNv] at hvv
 unfold rA at hvv
 split at hvv
 ·rename_i xs hg
  obtain⟨d,e1,e2⟩:=ae hvv
  obtain⟨Z',e3,e4⟩:=yac.mp e2
  subst e4
  obtain⟨a,vs,q1,q2,q3,q4,q5⟩:=ju hs hg
  obtain⟨y,l1,l2⟩:=RDs.last q5 e1
  refine⟨.ref a,q1,.inl ⟨rfl,_,SqL.of q4⟩,a,vs,y,rfl,rfl,q4,l1,?_⟩
  have kp:=mw (ws:=vs.dropLast) q4 q3
  have gr2:=kB (ws:=vs.dropLast) gr q4 q2
  exact my (o9 hs gr hg q1 q2 q3 q4 (RDs.init q5)) e3 (RD.mono kp l2) fun τ' s'=>en τ' _ F kp gr2 s'
 ·cases hvv
theorem qHq (A:AllE call G k n) (g:XG call G k X sc N) (h:cE G n sc N t=some c) (hb:iw call X body cb):fq call X (.While t body [] spos) [.whl c cb]:=by
 obtain⟨tt,pt,qt⟩:=(A.e X sc N t c g h).ht
 obtain⟨tb,pb,qb⟩:=hb
 refine⟨_,qJK (by rw [g.xe];exact PassesOwn.never) pt pb,λGe F0 H F Z τ o Dn hvv hs gr en=>?_⟩
 rw [gW,qNu] at hvv
 refine⟨λm τ' H'=>∃F' Z',SR X.K Ge H' F' Z' τ'/\Gr Ge F0 H' F'/\Keep H F H' F'/\j7 (fun Z'=>aa call Z' c) (fun Z'=>af call Z' cb) m Z'=some o,⟨mU,F,Z,hs,gr,Keep.refl,hvv⟩,?_⟩
 rintro m τ' H' ⟨F',Z',sr',gr',kp',ev'⟩
 cases m with
 | zero=>cases ev'
 | succ m =>
  obtain⟨⟨x,d⟩,e1,e2⟩:=ae (show ((aa call Z' c).bind (xh Z' ((af call Z' cb).bind (oV (j7 (fun Z'=>aa call Z' c) (fun Z'=>af call Z' cb) m)))))=some o from ev')
  cases d with
  | bl b =>
   refine qt Ge H' F' Z' τ' x b _ e1 sr' λH1 F1 g1=>?_
   cases b with
   | false =>
    cases e2
    exact oE (en τ' H1 F1 (kp'.trans g1.keep) (gr'.trans g1) (sr'.grow g1))
   | true =>
    obtain⟨o1,b2,e3⟩:=ae (show ((af call Z' cb).bind (oV (j7 (fun Z'=>aa call Z' c) (fun Z'=>af call Z' cb) m)))=some o from e2)
    refine n9 ?_
    cases o1 with
    | nx Z2=>exact⟨fun τ2 H2=>∃F2,SR X.K Ge H2 F2 Z2 τ2/\Gr Ge F0 H2 F2/\Keep H F H2 F2,fun τ2 H2 ⟨F2,q1,q2,q3⟩=>⟨m,by omega,F2,Z2,q1,q2,q3,e3⟩,qb Ge F0 H1 F1 Z' τ' (.nx Z2) _ b2 (sr'.grow g1) (gr'.trans g1) fun τ5 H5 F5 k5 g5 s5=>⟨F5,s5,g5,(kp'.trans g1.keep).trans k5⟩⟩
    | ct Z2=>exact⟨fun τ2 H2=>∃F2,SR X.K Ge H2 F2 Z2 τ2/\Gr Ge F0 H2 F2/\Keep H F H2 F2,fun τ2 H2 ⟨F2,q1,q2,q3⟩=>⟨m,by omega,F2,Z2,q1,q2,q3,e3⟩,qb Ge F0 H1 F1 Z' τ' (.ct Z2) _ b2 (sr'.grow g1) (gr'.trans g1) fun τ5 H5 F5 k5 g5 s5=>⟨F5,s5,g5,(kp'.trans g1.keep).trans k5⟩⟩
    | bk Z2 =>
     cases e3
     exact⟨λ_ _=>False,λ_ _ z=>z.elim,qb Ge F0 H1 F1 Z' τ' (.bk Z2) _ b2 (sr'.grow g1) (gr'.trans g1) fun τ5 H5 F5 k5 g5 s5=>en τ5 H5 F5 ((kp'.trans g1.keep).trans k5) g5 s5⟩
    | rt r =>
     cases e3
     exact⟨λ_ _=>False,λ_ _ z=>z.elim,qb Ge F0 H1 F1 Z' τ' (.rt r) _ b2 (sr'.grow g1) (gr'.trans g1) en⟩
  | _=>cases e2
theorem qMk (hG:∀x∈bP,G.defs.lookup x=none) (g:XG call G k X sc N) (h:cE G n sc N e=some c):fq call X (.Return (some e) spos) [.ret c]:=by
 have ok:=(jk (call:=call) (k:=k) hG n).e X sc N e c g h
 by_cases hc:∃i,c=.v i
 ·obtain⟨i,rfl⟩:=hc
  cases n with
  | zero=>cases h
  | succ n =>
   have hn:∃x p,e=.Name x p/\ck sc N x=some i:=by
    rcases ok.nv with ⟨x,p,rfl⟩|z
    ·exact⟨x,p,rfl,qNM h⟩
    ·exact Qn rfl (z i)
   obtain⟨x,p,rfl,hv⟩:=hn
   obtain⟨h1,h2,h3,h4⟩:=jq g hv
   refine⟨_,rV (gT h1 h2 h3 h4),λGe F0 H F Z τ o Dn hvv hs gr en=>?_⟩
   rw [gW,mi] at hvv
   obtain⟨r,e1,e2⟩:=ae hvv
   cases e2
   have e1:(ar Z i).bind wH=some r:=e1
   obtain⟨⟨b,d⟩,e0,e1⟩:=ae e1
   cases b with
   | false =>
    cases e1
    obtain⟨v,q1,q2⟩:=hs.val i d e0
    exact⟨v,q1,en v H F gr q2⟩
   | true =>
    cases d with
    | lst ds0 =>
     cases e1
     obtain⟨a,ds,vs,q1,q2,q3,q4,q5,q6⟩:=hs.own i _ e0 rfl
     exact⟨.ref a,q2,en _ H F gr ⟨a,ds,vs,q1,rfl,q3,q4,q5,q6⟩⟩
    | _=>cases e1
 ·obtain⟨te,pe,qe⟩:=ok.he
  refine⟨_,rV pe,λGe F0 H F Z τ o Dn hvv hs gr en=>?_⟩
  rw [gW,mi] at hvv
  obtain⟨r,e1,e2⟩:=ae hvv
  cases e2
  have e1':aa call Z c=some r:=by
   cases c with
   | v i=>exact Qn ⟨i,rfl⟩ hc
   | _=>exact e1
  exact qe Ge H F Z τ r _ e1' hs λv H' F' g' rr=>en v H' F' (gr.trans g') (rr.back hs.ent)
theorem qOA (A:AllE call G k n) (g:XG call G k X sc N) (h:cE G n sc N t=some c) (ha:iw call X a ca) (hb:iw call X b cb):fq call X (.If t a b spos) [.ite c ca cb]:=by
 obtain⟨tt,pt,qt⟩:=(A.e X sc N t c g h).ht
 obtain⟨ta,pa,qa⟩:=ha
 obtain⟨tb,pb,qb⟩:=hb
 refine⟨_,qRO pt pa pb,λGe F0 H F Z τ o Dn hvv hs gr en=>?_⟩
 rw [gW,za] at hvv
 obtain⟨r,e1,e2⟩:=ae hvv
 obtain⟨x,d⟩:=r
 cases d with
 | bl bb =>
  refine qt Ge H F Z τ x bb _ e1 hs λH' F' g'=>?_
  cases bb with
  | true=>exact n9 (qa Ge F0 H' F' Z τ o Dn e2 (hs.grow g') (gr.trans g') (en.mv g'.keep))
  | false=>exact oE (qb Ge F0 H' F' Z τ o Dn e2 (hs.grow g') (gr.trans g') (en.mv g'.keep))
 | _=>cases e2
theorem me (g:XG call G k X sc N) (ht:eU sc N tg=some t) (hi:SndI X tg it b src) (hf:∀x,foldedSetIterable it X.env x=pure x) (hb:iw call X body cb)
  (hv:∀Z o,bW call Z s=some o->∃its,src Z=some its/\bE call cb t its Z=some o):fq call X (.For tg it body [] spos) [s]:=by
 obtain⟨wi,pi,qi⟩:=hi
 obtain⟨tb,pb,qb⟩:=hb
 have pg:=sH g ht
 refine⟨_,qOU (by rw [g.xe];exact PassesOwn.never) g.calm pi pg pb hf,λGe F0 H F Z τ o Dn hvv hs gr en=>?_⟩
 rw [gW] at hvv
 obtain⟨its,e1,e2⟩:=hv Z o hvv
 refine qi Ge H F Z τ its _ e1 hs λJ H1 F1 g1 eO _=>?_
 refine⟨λi m τ' H'=>i<=its.length/\m=its.length - i/\∃F' Z',SR X.K Ge H' F' Z' τ'/\Gr Ge F0 H' F'/\Keep H1 F1 H' F'/\bE call cb t (its.drop i) Z'=some o,⟨its.length,jN _,rfl,F1,Z,hs.grow g1,gr.trans g1,Keep.refl,by simpa using e2⟩,?_⟩
 rintro i m τ' H' ⟨hi,rfl,F',Z',sr',gr',kp',ev'⟩
 obtain⟨okI,okS⟩:=eO H' F' kp' gr'.dom
 by_cases hlt:i<its.length
 ·refine .inr ?_
  have hdi:its[i]?=some its[i]:=eJ hlt
  obtain⟨go,yl⟩:=okI i _ hdi
  have hdr:its.drop i=its[i]::its.drop (i+1):=List.drop_eq_getElem_cons hlt
  rw [hdr,mj] at ev'
  obtain⟨Z1,b1,ev'⟩:=ae ev'
  obtain⟨o1,b2,ev'⟩:=ae ev'
  cases o1 with
  | nx Z2 =>
   refine⟨go,fun τ2 H2=>∃F2,SR X.K Ge H2 F2 Z2 τ2/\Gr Ge F0 H2 F2/\Keep H1 F1 H2 F2,fun τ2 H2 ⟨F2,q1,q2,q3⟩=>⟨its.length - (i+1),by omega,hlt,rfl,F2,Z2,q1,q2,q3,ev'⟩,λx H3 y=>?_⟩
   obtain⟨F3,g3,rd3⟩:=yl x H3 y
   refine my (sr'.grow g3) b1 rd3 fun τ4 s4=>?_
   exact qb Ge F0 H3 F3 Z1 τ4 (.nx Z2) _ b2 s4 (gr'.trans g3) fun τ5 H5 F5 k5 g5 s5=>⟨F5,s5,g5,(kp'.trans g3.keep).trans k5⟩
  | rt r =>
   cases ev'
   refine⟨go,λ_ _=>False,λ_ _ z=>z.elim,λx H3 y=>?_⟩
   obtain⟨F3,g3,rd3⟩:=yl x H3 y
   refine my (sr'.grow g3) b1 rd3 fun τ4 s4=>?_
   exact qb Ge F0 H3 F3 Z1 τ4 (.rt r) _ b2 s4 (gr'.trans g3) en
  | ct Z2 =>
   refine⟨go,fun τ2 H2=>∃F2,SR X.K Ge H2 F2 Z2 τ2/\Gr Ge F0 H2 F2/\Keep H1 F1 H2 F2,fun τ2 H2 ⟨F2,q1,q2,q3⟩=>⟨its.length - (i+1),by omega,hlt,rfl,F2,Z2,q1,q2,q3,ev'⟩,λx H3 y=>?_⟩
   obtain⟨F3,g3,rd3⟩:=yl x H3 y
   refine my (sr'.grow g3) b1 rd3 fun τ4 s4=>?_
   exact qb Ge F0 H3 F3 Z1 τ4 (.ct Z2) _ b2 s4 (gr'.trans g3) fun τ5 H5 F5 k5 g5 s5=>⟨F5,s5,g5,(kp'.trans g3.keep).trans k5⟩
  | bk Z2 =>
   cases ev'
   refine⟨go,λ_ _=>False,λ_ _ z=>z.elim,λx H3 y=>?_⟩
   obtain⟨F3,g3,rd3⟩:=yl x H3 y
   refine my (sr'.grow g3) b1 rd3 fun τ4 s4=>?_
   exact qb Ge F0 H3 F3 Z1 τ4 (.bk Z2) _ b2 s4 (gr'.trans g3) fun τ5 H5 F5 k5 g5 s5=>en τ5 H5 F5 (((g1.keep.trans kp').trans g3.keep).trans k5) g5 s5
 ·have hin:i=its.length:=by omega
  subst hin
  rw [List.drop_of_length_le (aK _)] at ev'
  cases ev'
  exact .inl ⟨okS,en τ' H' F' (g1.keep.trans kp') gr' sr'⟩
end
end Dw
namespace Dw
open PySem PySem.Spec PyProof.Rows L2
section
variable {call:Nat->List D->Option R}{G:Gx}{k:Nat}
structure AllS (call:Nat->List D->Option R) (G:Gx) (k n:Nat):Prop where
 o:∀(X:Cx) (sc:Scope) (N:List Str) (mt:List Nat) (st:Stmt) (cs:List S),XG call G k X sc N->cS G n sc N mt st=some cs->fq call X st cs
 s:∀(X:Cx) (sc:Scope) (N:List Str) (mt:List Nat) (st:List Stmt) (cs:List S),XG call G k X sc N->f6 G n sc N mt st=some cs->iw call X st cs
theorem qJp (h:eU sc N tg=some t):(∃y q,tg=.Name y q)∨∃es kk q,tg=.Tuple es kk q:=by
 unfold eU at h
 cases ht:eW sc N tg with
 | some t' =>
  cases tg with
  | Name y q=>exact .inl ⟨y,q,rfl⟩
  | Tuple es kk q=>exact .inr ⟨es,kk,q,rfl⟩
  | _=>cases ht
 | none =>
  rw [ht] at h
  cases tg with
  | Name y q=>exact .inl ⟨y,q,rfl⟩
  | Tuple es kk q=>exact .inr ⟨es,kk,q,rfl⟩
  | _=>cases h
theorem zy {e:Expr}{x m:Str}{p2:Pos}(h:n5 e=some (x,m,p2)):∃p,e=.Attribute (.Name x p) m p2:=by
 unfold n5 at h
 split at h
 ·cases h;exact⟨_,rfl⟩
 ·cases h
theorem qML {e:Expr}{x m:Str}{p2 p3:Pos}(h:rz e=some (x,m,p2,p3)):∃p,e=.Call (.Attribute (.Name x p) m p2) [] [] p3:=by
 unfold rz at h
 split at h
 ·obtain⟨⟨a,b,c⟩,e1,e2⟩:=yac.mp h
  obtain⟨p,rfl⟩:=zy e1
  cases e2
  exact⟨_,rfl⟩
 ·cases h
theorem A6 {e:Expr}{x:Str}(h:oW e=some x):∃p,e=.Name x p:=by
 unfold oW at h
 split at h
 ·cases h;exact⟨_,rfl⟩
 ·cases h
theorem AQ (hG:∀x∈bP,G.defs.lookup x=none) (g:XG call G k X sc N) {mt:List Nat}{x:Str}{e:Expr}{cs:List S}{p pos:Pos}(h:n6 G n sc N mt x e=some cs):fq call X (.Assign [.Name x p] e pos) cs:=by
 unfold n6 at h
 split at h
 ·rename_i hx
  obtain⟨i,e1,e2⟩:=ae h
  split at e2
  ·cases e2
  ·rename_i h0
   obtain⟨c,e3,e4⟩:=ae e2
   cases e4
   exact fV (qMg hG g (λz y=>h0 (by rw [z,y];rfl)) e3 hx e1)
 ·cases h
theorem qL8 (hG:∀x∈bP,G.defs.lookup x=none) (B:AllS call G k n):AllS call G k (n+1):=by
 have A:=jk (call:=call) (k:=k) hG n
 constructor
 ·intro X sc N mt st cs g h
  unfold cS at h
  split at h
  ·rename_i tg e pos
   unfold B7 at h
   split at h
   ·rename_i x m p2 p3 hp
    obtain⟨p,rfl⟩:=qML hp
    split at h
    ·rename_i hm
     rw [aL] at hm
     obtain⟨t,e1,e2⟩:=ae h
     obtain⟨i,e3,e4⟩:=ae e2
     cases e4
     have hk:=qJp e1
     rcases hk with ⟨y,q,rfl⟩|⟨es,kk,q,rfl⟩
     ·exact zC g (by simpa using hm.1) hm.2 e1 e3 rfl rfl rfl
     ·exact zC g (by simpa using hm.1) hm.2 e1 e3 rfl rfl rfl
    ·obtain⟨y,e1,h⟩:=ae h
     obtain⟨q,rfl⟩:=A6 e1
     exact AQ hG g h
   ·obtain⟨x,e1,h2⟩:=ae h
    clear h
    obtain⟨q,rfl⟩:=A6 e1
    exact AQ hG g h2
  ·rename_i f e p3 pos
   split at h
   ·rename_i x m p2 hp
    obtain⟨p,rfl⟩:=zy hp
    split at h
    ·rename_i hm
     rw [aL] at hm
     obtain⟨i,e1,e2⟩:=ae h
     obtain⟨c,e3,e4⟩:=ae e2
     cases e4
     exact fV (qMw A g (by simpa using hm.1) hm.2 e1 e3)
    ·split at h
     ·rename_i hm
      rw [aL] at hm
      obtain⟨i,e1,e2⟩:=ae h
      obtain⟨c,e3,e4⟩:=ae e2
      cases e4
      exact fV (qMs A g (by simpa using hm.1) hm.2 e1 e3)
     ·cases h
   ·cases h
  ·rename_i t body pos
   obtain⟨c,e1,e2⟩:=ae h
   obtain⟨cb,e3,e4⟩:=ae e2
   cases e4
   exact fV (qHq A g e1 (B.s X sc N mt body cb g e3))
  ·rename_i e pos
   obtain⟨c,e1,e2⟩:=ae h
   cases e2
   exact fV (qMk hG g e1)
  ·rename_i t a b pos
   obtain⟨c,e1,e2⟩:=ae h
   obtain⟨ca,e3,e4⟩:=ae e2
   obtain⟨cb,e5,e6⟩:=ae e4
   cases e6
   exact fV (qOA A g e1 (B.s X sc N mt a ca g e3) (B.s X sc N mt b cb g e5))
  ·rename_i tg it body pos
   obtain⟨t,e1,e2⟩:=ae h
   obtain⟨cb,e3,e4⟩:=ae e2
   have hb:=B.s X sc N mt body cb g e3
   have hsr:=wC (sc:=sc) it
   cases hq:i9 sc it with
   | seq s =>
    rw [hq] at e4 hsr
    obtain⟨x,q1,q2⟩:=ae e4
    cases q2
    cases hsr
    refine fV (me g e1 (zG A g q1) (sQ q1 X.env) hb fun Z o hv=>?_)
    rw [A2] at hv
    obtain⟨r,r1,r2⟩:=ae hv
    obtain⟨its,r3,r4⟩:=ae r2
    exact⟨its,by simp only [r1];exact r3,r4⟩
   | rng rs =>
    rw [hq] at e4 hsr
    obtain⟨xs,q1,q2⟩:=ae e4
    cases q2
    cases hsr with
    | rng f p as pos2 hg hf hl =>
     refine fV (me g e1 (zE (p:=p) (pos:=pos2) A g hG hg hf hl q1) (λ_=>rfl) hb fun Z o hv=>?_)
     rw [A1] at hv
     obtain⟨r,r1,r2⟩:=ae hv
     obtain⟨its,r3,r4⟩:=ae r2
     exact⟨its,by simp only [r1];exact r3,r4⟩
   | zip a b =>
    rw [hq] at e4 hsr
    simp only at e4
    split at e4
    ·rename_i h2
     obtain⟨x,q1,q2⟩:=ae e4
     obtain⟨y,q3,q4⟩:=ae q2
     cases q4
     obtain⟨es,kk,tp,rfl⟩:=pH (pG e1 h2) h2
     cases hsr with
     | zip f p a b pos2 hg hf =>
      refine fV (me g e1 (zH (p:=p) (pos:=pos2) A g hG hg hf q1 q3) (λ_=>rfl) hb fun Z o hv=>?_)
      rw [A4] at hv
      obtain⟨z,r1,r2⟩:=ae hv
      obtain⟨z2,r3,r4⟩:=ae r2
      obtain⟨xs,r5,r6⟩:=ae r4
      obtain⟨ys,r7,r8⟩:=ae r6
      exact⟨bS xs ys,by simp only [r1,r3,r5,r7,dE],r8⟩
    ·cases e4
   | enm a =>
    rw [hq] at e4 hsr
    simp only at e4
    split at e4
    ·rename_i h2
     obtain⟨x,q1,q2⟩:=ae e4
     cases q2
     obtain⟨es,kk,tp,rfl⟩:=pH (pG e1 h2) h2
     cases hsr with
     | enm f p a pos2 hg hf =>
      refine fV (me g e1 (zD (p:=p) (pos:=pos2) A g hG hg hf q1) (λ_=>rfl) hb fun Z o hv=>?_)
      rw [Ao] at hv
      obtain⟨z,r1,r2⟩:=ae hv
      obtain⟨xs,r5,r6⟩:=ae r2
      exact⟨cY 0 xs,by simp only [r1,r5,dE],r6⟩
    ·cases e4
   | rev rs =>
    rw [hq] at e4 hsr
    obtain⟨xs,q1,q2⟩:=ae e4
    cases q2
    cases hsr with
    | rev f f' p p' a pos2 pos3 hg hf hg' hf' =>
     refine fV (me g e1 (qMb (p:=p) (pos:=pos2) (p':=p') (pos':=pos3) A g hG hg hf hg' hf' q1) (λ_=>rfl) hb fun Z o hv=>?_)
     rw [A3] at hv
     obtain⟨r,r1,r2⟩:=ae hv
     obtain⟨its,r3,r4⟩:=ae r2
     exact⟨its,by simp only [r1];exact r3,r4⟩
  ·cases h
 ·intro X sc N mt st cs g h
  unfold f6 at h
  split at h
  ·cases h;exact qMm
  ·rename_i a r
   obtain⟨x,e1,e2⟩:=ae h
   obtain⟨y,e3,e4⟩:=ae e2
   cases e4
   exact qJC (B.o X sc N mt a x g e1) (B.s X sc N mt r y g e3)
theorem qL7:AllS call G k 0:=by
 constructor
 ·intro X sc N mt st cs _ h;cases h
 ·intro X sc N mt st cs _ h;cases h
theorem x6 (hG:∀x∈bP,G.defs.lookup x=none):∀n,AllS call G k n
 | 0=>qL7
 | n+1=>qL8 hG (x6 hG n)
end
structure FunD (K:Qb) (x qual:Str) (st:Stmt) (f:Addr) (fd:FuncData):Prop where
 ex:∃(oc:Value) (od:Option Addr) (dV kV doc pm:Value) (an:Option Addr) (cdv ct:Value) (osl:Array (Option Value)),
  fd=PySem.W.fnOf x qual (dR st) (bJ st) (av st) dV kV doc pm an cdv ct/\K.lookup f=some ⟨oc,od,.func fd,osl⟩/\PySem.W.codeIn K cdv qual=true
 kp:PySem.W.keepIn K (.ref f)=true
theorem pz {K:Qb}{x qual:Str}{st:Stmt}{f:Addr}{fd:FuncData}(F:Fun K x qual st f fd):FunD K x qual st f fd:=by
 obtain⟨⟨oc,od,kV,doc,pm,an,cdv,ct,osl,h1,h2,h3⟩,kp⟩:=F
 exact⟨⟨oc,od,.none,kV,doc,pm,an,cdv,ct,osl,h1,h2,h3⟩,kp⟩
theorem FunD.ok {w:World}{K:Qb}{mg:Str->Option Value}{base:Heap}{x qual:Str}{st:Stmt}{f:Addr}{fd:FuncData}{N ps:List Str}{k:Nat}{sp:Sp}(F:FunD K x qual st f fd) (S:FnScope N ps (av st)) (len:∀vs H Q E,sp vs H Q E->vs.length=ps.length)
  (body:∀(cdv:Value) (A:Around) (outer:List Env) (s:Shared) (H:Hp) (vs:List V) (Q:VK) (E:XK),Room k (A.deeper (envOfC qual (av st) s.heap.objs.size f cdv))->sp vs H Q E ->
   ∃t,PSs (gI dJ P w K mg base N qual (av st) f cdv A outer s H E).nox (bJ st) t/\t { nx:=λ_ H'=>Q .non H',rt:=Q } (start N vs) H):FnOk P w K mg base dJ (k+1) f fd ps sp:=by
 obtain⟨oc,od,dV,kV,doc,pm,an,cdv,ct,osl,rfl,lk,hcd⟩:=F.ex
 refine xP lk hcd S len λA outer s H vs Q E hr h=>?_
 obtain⟨t,h1,h2⟩:=body cdv A outer s H vs Q E hr h
 exact⟨t,h1.nox,h2⟩
structure DefIn (K:Qb) (mg:Str->Option Value) (G:Gx) (tab:List Fd) (fuel:Nat) (x:Str) (i:Nat):Prop where
 ex:∃(a:Addr) (fdt:FuncData) (st:Stmt) (ps:List Str) (fd:Fd),mg x=some (.ref a)/\FunD K x x st a fdt/\Binds K fdt ps []/\FnScope (aY (av st)) ps (av st) /\
  f6 G fuel (av st) (aY (av st)) (gN fuel (aY (av st)) (bJ st)) (bJ st)=some fd.body/\tab[i]?=some fd/\fd.np=ps.length/\fd.ns=(aY (av st)).length/\∀m d,G.dfl.lookup x=some (m,d)->∃t,Binds K fdt ps [.int d t]
def oN (K:Qb) (C:Addr) (ns:List Str):Prop:=(∃(fi:Addr) (fdi:FuncData) (sti:Stmt) (psi:List Str) (qi:Str),Mk K C fi/\FunD K "__init__" qi sti fi fdi/\Binds K fdi psi []/\FnScope (aY (av sti)) psi (av sti) /\
  iG (av sti) (aY (av sti)) 0 ns (bJ sti)=true/\psi.length=ns.length+1/\ns.length<1000)∨(ns=[]/\Mk0 K C)
structure MthIn (K:Qb) (mg:Str->Option Value) (G:Gx) (tab:List Fd) (fuel:Nat) (c m:Str) (i:Nat) (C:Addr) (ns:List Str):Prop where
 ex:∃(fm:Addr) (fdm:FuncData) (stm:Stmt) (psm:List Str) (qm:Str) (fd:Fd),mg c=some (.ref C)/\oN K C ns/\Cls K C/\(∀f∈ns,NoAttr K C f)/\Meth K C m fm/\FunD K m qm stm fm fdm/\Binds K fdm psm []/\FnScope (aY (av stm)) psm (av stm) /\
  f6 G fuel (av stm) (aY (av stm)) (gN fuel (aY (av stm)) (bJ stm)) (bJ stm)=some fd.body/\tab[i]?=some fd/\fd.np=psm.length/\fd.ns=(aY (av stm)).length/\m∉ns/\ns.Nodup
theorem sS (ht:tab[i]?=some fd) (h:aC tab n i ds=some r):ds.length=fd.np:=by
 cases n with
 | zero=>cases h
 | succ n =>
  rw [lW ht] at h
  unfold iD at h
  split at h
  ·assumption
  ·cases h
section
variable {P:Program}{w:World}{K:Qb}{mg:Str->Option Value}{base:Heap}{G:Gx}{tab:List Fd}{fuel:Nat}
theorem pv:∀{b:Bool}{ds:List D}{m i:Nat}{r:R},ar (aO b ds++List.replicate m none) i=some r->∃d,ds[i]?=some d/\r=(i3 d,d)
 | b,[],m,i,r,h=>by
  unfold ar at h
  rw [show aO b []=[] by cases b<;>rfl,qI,jX] at h
  split at h<;>cases h
 | b,d::ds,m,i,r,h=>by
  cases i with
  | zero =>
   refine⟨d,rfl,?_⟩
   cases b<;>cases d<;>first|(cases h;rfl)|cases h
  | succ i =>
   have:∃b',ar (aO b' ds++List.replicate m none) i=some r:=by
    cases b<;>cases d<;>first|exact⟨false,h⟩|exact⟨true,h⟩
   obtain⟨b',h'⟩:=this
   obtain⟨d',q1,q2⟩:=pv h'
   exact⟨d',by simpa using q1,q2⟩
theorem sd:∀{ds:List D}{m i:Nat}{d:D},ar (aO true ds++List.replicate m none) i=some (true,d)->False
 | [],m,i,d,h=>by
  unfold ar at h
  rw [show aO true []=[] from rfl,qI,jX] at h
  split at h<;>cases h
 | x::ds,m,i,d,h=>by
  cases i with
  | zero=>cases x<;>cases h
  | succ i=>exact sd (ds:=ds) (m:=m) (i:=i) (d:=d) (by cases x<;>exact h)
theorem zv:∀{ds:List D}{m i j:Nat}{d e:D},ar (aO false ds++List.replicate m none) i=some (true,d)->ar (aO false ds++List.replicate m none) j=some (true,e)->i=j
 | [],m,i,j,d,e,h,h'=>by
  unfold ar at h
  rw [show aO false []=[] from rfl,qI,jX] at h
  split at h<;>cases h
 | x::ds,m,i,j,d,e,h,h'=>by
  cases hx:i3 x with
  | true =>
   cases x with
   | dct m' ks =>
    cases i with
    | zero =>
     cases j with
     | zero=>rfl
     | succ j=>exact Qn h' (λz=>sd (ds:=ds) (m:=m) (i:=j) z)
    | succ i=>exact Qn h (λz=>sd (ds:=ds) (m:=m) (i:=i) z)
   | _=>cases hx
  | false =>
   have e1:aO false (x::ds)=some (false,x)::aO false ds:=by cases x<;>first|rfl|cases hx
   rw [e1] at h h'
   cases i with
   | zero=>cases h
   | succ i =>
    cases j with
    | zero=>cases h'
    | succ j=>rw [zv (ds:=ds) (m:=m) (i:=i) (j:=j) h h']
theorem zu:∀(b:Bool) (ds:List D),(aO b ds).length=ds.length
 | b,[]=>by cases b<;>rfl
 | b,d::ds=>by cases b<;>cases d<;>(show (aO _ ds).length+1=_;rw [zu];rfl)
theorem tq (tb:TB H) (dom:∀a,H a=none->¬F a) (h:RGs K H F ds vs) (hm:m=N.length - vs.length):SR K ⟨H,none,tb⟩ H F (aO false ds++List.replicate m none) (L2.start N vs):=by
 have hl:=RGs.length h
 have at_:∀{i:Nat} {v:V},vs[i]?=some v->(L2.start N vs)[i]?=some (some v):=λ{i v} q1=>by
  unfold L2.start
  obtain⟨hi,_⟩:=yal.mp q1
  rw [lB (by simpa using hi),gE,q1]
  rfl
 refine⟨by simp [L2.start,hl,hm,zu],Same.refl H,dom,λi d e=>?_,λi d e hd=>?_,λi j d e h1 h2 _=>zv h1 h2,λi m' ks e=>?_,λ_ _ z=>nomatch z⟩
 ·obtain⟨d',e1,e2⟩:=pv e
  have hd:i3 d'=false:=(iV e2).1.symm
  have hd2:d=d':=(iV e2).2
  subst hd2
  obtain⟨v,q1,q2⟩:=RGs.get h e1
  refine⟨v,at_ q1,q2.elim (λz=>z) λ⟨a,ks,z,_⟩=>?_⟩
  subst z
  cases hd
 ·obtain⟨d',e1,e2⟩:=pv e
  have hd1:true=i3 d':=(iV e2).1
  have hd2:d=d':=(iV e2).2
  subst hd2
  rw [hd] at hd1
  cases hd1
 ·obtain⟨d',e1,e2⟩:=pv e
  have hd2:D.dct m' ks=d':=(iV e2).2
  subst hd2
  obtain⟨v,q1,q2⟩:=RGs.get h e1
  rcases q2 with z|⟨a,ks',z1,z2,z3,z4⟩
  ·exact False.elim z
  ·cases z1
   subst z2
   exact⟨a,at_ q1,z3,z4,λz=>nomatch z⟩
theorem sE:FnOk P w K mg base dJ 2 a fdt ps (cz K ps.length (aC tab 0 i)):=
 ⟨λ_ _ _ _ h=>h.1,λA outer s H args us vs Q E _ _ _ _ h=>by obtain⟨_,F,ds,r,_,_,_,z,_⟩:=h;cases z⟩
structure LamIn (G:Gx) (tab:List Fd) (fuel:Nat) (j:Nat) (L:LamD):Prop where
 ex:∃(x:Str) (ce:C) (fd:Fd),tab[j]?=some fd/\fd.body=[.ret ce]/\fd.np=1+(aG L.sc).length/\fd.ns=1+(aG L.sc).length/\cE G fuel L.sc (x::aG L.sc) L.e=some ce/\(x::aG L.sc).Nodup/\(∀i,ce≠.v i) /\
  L.sc.kind=.function/\L.sc.isCoroutine=false/\L.sc.isGenerator=false/\(∀y∈L.sc.names,y.2≠.cell)/\L.sc.names.lookup x=some .local/\(∀y∈aG L.sc,L.sc.names.lookup y=some .free) /\
  ∀clos pm c ctv uv,bindArgs (PySem.W.kla_fn "<lambda>" L.q L.la L.e L.sc clos pm (.ref c) ctv) ⟨[uv],[]⟩=pure [(x,uv)]
theorem Ak {call:Nat->List D->Option R}{k:Nat}{j:Nat}{L:LamD}(hn:∀as,call j as=none) (hL:LamIn G tab fuel j L):Dfl call k P w K mg base j L:=by
 obtain⟨x,ce,fd,t1,t2,t3,t4,t5,t6,t7,s1,s2,s3,s4,s5,s6,s7⟩:=hL.ex
 exact⟨x,s1,s2,s3,s4,s5,s6,s7,λf c clos A outer s H0 hr=>⟨λ_ _ _=>False,λ_ _ _ _ _ _ z=>z.elim,λH F d ds v vs r Q tb dom hcall=>by rw [hn] at hcall;cases hcall⟩⟩
theorem zZ (iQ:∀j L,lamX.lookup j=some L->LamIn G tab fuel j L) (hbl:∀x∈bP,mg x=none) (Fn:FunD K "__init__" qi sti fi fdi) (Sc:FnScope (aY (av sti)) psi (av sti)) (hi:iG (av sti) (aY (av sti)) 0 ns (bJ sti)=true) (hl:psi.length=ns.length+1) (hz:ns.length<1000) :
  FnOk P w K mg base dJ 1 fi fdi psi (qW K ns):=by
 refine Fn.ok (k:=0) Sc (λvs H Q E h=>?_) (λcdv A outer s H vs Q E hr h=>?_)
 ·obtain⟨x,C,dx,ws,rfl,h1,_⟩:=h
  rw [hl,fC,h1]
 ·obtain⟨x,C,dx,ws,rfl,h1,h2,h3,h4,hq⟩:=h
  have g:XG (λ_ _=>none) ⟨[],[],[],[],[],[],[],[]⟩ 0 (gI dJ P w K mg base (aY (av sti)) qi (av sti) fi cdv A outer s H E).nox (av sti) (aY (av sti)):=by
   refine⟨rfl,Sc.nd,λy h=>?_,λy h=>?_,λy h=>?_,λy h=>?_,rfl,rfl,hr,λy j h=>(nomatch h),λy _ h=>?_,⟨λy i h=>(nomatch h),λy i h=>(nomatch h)⟩,λu hm=>(nomatch hm),λz=>Qn rfl z,λu hm=>(nomatch hm),λj L e=>Ak (λ_=>rfl) (iQ j L e)⟩
   ·unfold iA at h
    simp only [dD,beq_iff_eq] at h
    rcases h with (h|h)|h
    ·exact .inl h
    ·exact .inr (.inl h)
    ·exact .inr (.inr h)
   ·simp only [dD,beq_iff_eq] at h
    exact⟨h,.inl rfl⟩
   ·unfold bf at h
    rw [beq_iff_eq] at h
    exact h
   ·unfold ip at h
    simp only [dD,beq_iff_eq] at h
    exact h
   ·exact hbl y h
  obtain⟨t,pt,qt⟩:=Bb g ns 0 (bJ sti) hi
  refine⟨t,pt,qt _ H x C dx [] ws _ rfl (λi w hw=>?_) h1 h2 h3 h4 (by simpa using hz) hq⟩
  obtain⟨hlt,_⟩:=yal.mp hw
  unfold L2.start
  rw [lB (by simp;omega),gE,show 0+1+i=i+1 by omega,jY,hw]
  rfl
variable {P:Program}{w:World}{K:Qb}{mg:Str->Option Value}{base:Heap}{G:Gx}{tab:List Fd}{fuel:Nat} in
theorem qN2 (hb:∀x∈bP,mg x=none) (hc:CnD P w K mg G) (dz:∀u∈G.meth,u.kn.c<CL) {call:Nat->List D->Option R}{k:Nat}(h2:G.meth≠[]->2<=k)
  (hdf:∀x i,G.defs.lookup x=some i->∀X:Cx,X.prog=P->X.w=w->X.K=K->X.mg=mg->X.base=base->Dfn G call k X x i) (hmf:∀u∈G.meth,∀X:Cx,X.prog=P->X.w=w->X.K=K->X.mg=mg->X.base=base->Dfm call k X u.kn.ns u.c u.m u.i u.kn.c) (hlf:∀i L,lamX.lookup i=some L->Dfl call k P w K mg base i L)
  {L:LamD} {x:Str} (nd:(x::aG L.sc).Nodup) (nc:∀y∈L.sc.names,y.2≠.cell) {f c:Addr} {clos:List (Str×Addr)} {A:Around} {outer:List Env} {s:Shared} {H0:Hp} (hr:Room k (A.deeper (PySem.W.envX L.q L.sc s.heap.objs.size f (.ref c) clos))) :
  XG call G k (j8 P w K mg base (x::aG L.sc) L.q L.sc f (.ref c) clos A outer s H0) L.sc (x::aG L.sc):=by
 refine⟨rfl,nd,λy h=>?_,λy h=>?_,λy h=>?_,λy h=>?_,rfl,rfl,hr,λy j h=>hdf y j h _ rfl rfl rfl rfl rfl,λy _ h=>hb y h,hc,λu hm=>hmf u hm _ rfl rfl rfl rfl rfl,h2,dz,hlf⟩
 ·unfold iA at h
  simp only [dD,beq_iff_eq] at h
  rcases h with (h|h)|h
  ·exact .inl h
  ·exact .inr (.inl h)
  ·exact .inr (.inr h)
 ·simp only [dD,beq_iff_eq] at h
  rcases h with h|h
  ·exact⟨.inl h,.inr h⟩
  ·exact Qn rfl (nc _ (dj h))
 ·unfold bf at h
  rw [beq_iff_eq] at h
  exact h
 ·unfold ip at h
  simp only [dD,beq_iff_eq] at h
  exact h
theorem qKc (hG:∀x∈bP,G.defs.lookup x=none) (hb:∀x∈bP,mg x=none) (hc:CnD P w K mg G) (dz:∀u∈G.meth,u.kn.c<CL) {n:Nat}
  (hdf:∀x i,G.defs.lookup x=some i->∀X:Cx,X.prog=P->X.w=w->X.K=K->X.mg=mg->X.base=base->Dfn G (aC tab n) (n+2) X x i) (hmf:∀u∈G.meth,∀X:Cx,X.prog=P->X.w=w->X.K=K->X.mg=mg->X.base=base->Dfm (aC tab n) (n+2) X u.kn.ns u.c u.m u.i u.kn.c) (hlf:∀i L,lamX.lookup i=some L->Dfl (aC tab n) (n+2) P w K mg base i L)
  {j:Nat} {L:LamD} (hL:LamIn G tab fuel j L):Dfl (aC tab (n+1)) (n+3) P w K mg base j L:=by
 obtain⟨x,ce,fd,t1,t2,t3,t4,t5,t6,t7,s1,s2,s3,s4,s5,s6,s7⟩:=hL.ex
 refine⟨x,s1,s2,s3,s4,s5,s6,s7,λf c clos A outer s H0 hr=>?_⟩
 have g:XG (aC tab n) G (n+2) (j8 P w K mg base (x::aG L.sc) L.q L.sc f (.ref c) clos A outer s H0) L.sc (x::aG L.sc):=qN2 hb hc dz (λ_=>qH 2 n) hdf hmf hlf t6 s4 (hr.deeper _)
 obtain⟨t,pt,qt⟩:=((jk (call:=aC tab n) (k:=n+2) hG fuel).e _ _ _ _ _ g t5).he
 refine⟨t,pt,λH F d ds v vs r Q tb dom hcall rd rds hlen hq=>?_⟩
 rw [lW t1] at hcall
 unfold iD at hcall
 split at hcall
 ·rename_i hal
  obtain⟨o,e1,e2⟩:=ae hcall
  rw [t2,dY] at e1
  obtain⟨o1,e3,e4⟩:=ae e1
  rw [mi] at e3
  obtain⟨r1,e5,e6⟩:=ae e3
  cases e6
  cases e4
  cases e2
  have e5:aa (aC tab n) (aO false (d::ds)++List.replicate (fd.ns - fd.np) none) ce=some r:=by
   cases ce<;>first|exact e5|exact Qn rfl (t7 _)
  have hv:(v::vs).length=(x::aG L.sc).length:=by simp [hlen]
  have st:L2.start (x::aG L.sc) (v::vs)=some v::vs.map some:=by
   unfold L2.start
   rw [hv,Nat.sub_self]
   simp
  have sr:=tq (K:=K) (N:=x::aG L.sc) (vs:=v::vs) (ds:=d::ds) (m:=fd.ns - fd.np) tb dom ⟨v,vs,rfl,.inl rd,RGs.of rds⟩ (by rw [t3,t4,hv];simp)
  rw [st] at sr
  exact qt ⟨H,none,tb⟩ H F _ _ r Q e5 sr hq
 ·cases hcall
def wI (K:Qb) (mg:Str->Option Value) (Pt:Addr):Prop:=∃bm o,mg "__builtins__"=some (.ref bm)/\bm≠builtinsNs/\bm≠mainGlobals/\bm≠Pt/\K.lookup bm=some o/\o.cls=.type "module"/\o.dict=some builtinsNs/\o.data=.plain
structure LdIn (K:Qb) (mg:Str->Option Value) (G:Gx) (tab:List Fd) (fuel:Nat) (x:Str) (i:Nat):Prop where
 ex:∃(a c:Addr) (st:Stmt) (ps:List Str) (fd:Fd) (oc dV kV doc pm ct:Value) (od an:Option Addr) (osl:Array (Option Value)) (g:Str) (p1 p2 p3:Pos) (e1 e2:Expr) (c1 c2:C) (ig j:Nat) (ks:List Nat) (L:LamD),mg x=some (.ref a)/\PySem.W.keepIn K (.ref a)=true /\
  K.lookup a=some ⟨oc,od,.func (PySem.W.fnOf x x (dR st) (bJ st) (av st) dV kV doc pm an (.ref c) ct),osl⟩/\Binds K (PySem.W.fnOf x x (dR st) (bJ st) (av st) dV kV doc pm an (.ref c) ct) ps []/\PySem.W.codeIn K (.ref c) x=true/\PySem.W.codeHdIn K c L.P=true/\wI K mg L.P /\
  FnScope (aY (av st)) ps (av st)/\tab[i]?=some fd/\fd.np=ps.length/\fd.ns=(aY (av st)).length /\
  bJ st=[.Return (some (.Call (.Name g p1) [e1,e2,.Lambda L.la L.e L.sc L.pos] [] p2)) p3]/\fd.body=[.ret (.lamc ig [c1,c2] j ks)]/\G.defs.lookup g=some ig/\bf (av st) g=true/\(g == ("__debug__":Str))=false /\
  cE G fuel (av st) (aY (av st)) e1=some c1/\cE G fuel (av st) (aY (av st)) e2=some c2/\lamX.lookup j=some L/\ScOk L.sc/\cL (fQ (av st) (aY (av st))) (aG L.sc)=some ks/\x++".<locals>.<lambda>"=L.q/\(∀env,defaultsOf L.la env=([],[]))/\G.dfl.lookup x=none
structure Stp (P:Program) (w:World) (K:Qb) (mg:Str->Option Value) (base:Heap) (G:Gx) (tab:List Fd) (n:Nat):Prop where
 d:∀x i,G.defs.lookup x=some i->∀X:Cx,X.prog=P->X.w=w->X.K=K->X.mg=mg->X.base=base->Dfn G (aC tab n) (n+2) X x i
 m:∀u∈G.meth,∀X:Cx,X.prog=P->X.w=w->X.K=K->X.mg=mg->X.base=base->Dfm (aC tab n) (n+2) X u.kn.ns u.c u.m u.i u.kn.c
 l:∀i L,lamX.lookup i=some L->Dfl (aC tab n) (n+2) P w K mg base i L
theorem sC (hG:∀x∈bP,G.defs.lookup x=none) (hb:∀x∈bP,mg x=none) (hc:CnD P w K mg G) (dz:∀u∈G.meth,u.kn.c<CL) {n:Nat}(S:Stp P w K mg base G tab n) {x qn:Str}{i:Nat}{a:Addr}{fdt:FuncData}{st:Stmt}{ps:List Str}{fd:Fd}(Fn:FunD K x qn st a fdt)
  (Sc:FnScope (aY (av st)) ps (av st)) (hcs:f6 G fuel (av st) (aY (av st)) (gN fuel (aY (av st)) (bJ st)) (bJ st)=some fd.body) (ht:tab[i]?=some fd) (hp:fd.np=ps.length) (hn:fd.ns=(aY (av st)).length) :
  FnOk P w K mg base dJ (n+3) a fdt ps (cz K ps.length (aC tab (n+1) i)):=by
 have gg:∀(cdv:Value) (A:Around) (outer:List Env) (s:Shared) (H:Hp) (E:XK),Room (n+2) (A.deeper (envOfC qn (av st) s.heap.objs.size a cdv))->XG (aC tab n) G (n+2) (gI dJ P w K mg base (aY (av st)) qn (av st) a cdv A outer s H E).nox (av st) (aY (av st)):=λcdv A outer s H E hr=>by
  refine⟨rfl,Sc.nd,λy h=>?_,λy h=>?_,λy h=>?_,λy h=>?_,rfl,rfl,hr,λy j h=>S.d y j h _ rfl rfl rfl rfl rfl,λy _ h=>hb y h,hc,λu hm=>S.m u hm _ rfl rfl rfl rfl rfl,λ_=>qH 2 n,dz,S.l⟩
  ·unfold iA at h
   simp only [dD,beq_iff_eq] at h
   rcases h with (h|h)|h
   ·exact .inl h
   ·exact .inr (.inl h)
   ·exact .inr (.inr h)
  ·simp only [dD,beq_iff_eq] at h
   exact⟨h,.inl rfl⟩
  ·unfold bf at h
   rw [beq_iff_eq] at h
   exact h
  ·unfold ip at h
   simp only [dD,beq_iff_eq] at h
   exact h
 refine Fn.ok Sc (λvs H Q E h=>h.1) (λcdv A outer s H vs Q E hr h=>?_)
 obtain⟨hvl,F,ds,r,tb,dom,rds,hcall,hq⟩:=h
 have hlen:=RGs.length rds
 rw [lW ht] at hcall
 unfold iD at hcall
 split at hcall
 ·rename_i hal
  obtain⟨o,e1,e2⟩:=ae hcall
  obtain⟨t,pt,qt⟩:=(x6 (call:=aC tab n) (k:=n+2) hG fuel).s _ _ _ _ _ _ (gg cdv A outer s H E hr) hcs
  refine⟨t,pt,qt ⟨H,none,tb⟩ F H F _ _ o _ e1 (tq tb dom rds (by rw [hp,hn,hvl])) (Gr.refl dom) ?_⟩
  cases o with
  | nx Z' =>
   cases e2
   exact fun τ' H' F' _ g' _=>hq .non H' F' g' rfl
  | rt r' =>
   cases e2
   exact λv H' F' g' rr=>hq v H' F' g' rr
  | bk _=>cases e2
  | ct _=>cases e2
 ·cases hcall
theorem qNk (hG:∀x∈bP,G.defs.lookup x=none) (hb:∀x∈bP,mg x=none) (hc:CnD P w K mg G) (dz:∀u∈G.meth,u.kn.c<CL) (kb:K.In base) {n:Nat}(S:Stp P w K mg base G tab n) {x:Str}{i:Nat}{a c:Addr}{st:Stmt}{ps:List Str}{fd:Fd}{oc dV kV doc pm ct:Value}{od an:Option Addr}{osl:Array (Option Value)}{g:Str}{p1 p2 p3:Pos}{e1 e2:Expr}{c1 c2:C}{ig j:Nat}{ks:List Nat}{L:LamD}
  (lk:K.lookup a=some ⟨oc,od,.func (PySem.W.fnOf x x (dR st) (bJ st) (av st) dV kV doc pm an (.ref c) ct),osl⟩) (hcd:PySem.W.codeIn K (.ref c) x=true) (hch:PySem.W.codeHdIn K c L.P=true) (hbm:wI K mg L.P)
  (Sc:FnScope (aY (av st)) ps (av st)) (ht:tab[i]?=some fd) (hp:fd.np=ps.length) (hn:fd.ns=(aY (av st)).length)
  (b1:bJ st=[.Return (some (.Call (.Name g p1) [e1,e2,.Lambda L.la L.e L.sc L.pos] [] p2)) p3]) (b2:fd.body=[.ret (.lamc ig [c1,c2] j ks)]) (b3:G.defs.lookup g=some ig) (b4:bf (av st) g=true) (b5:(g == ("__debug__":Str))=false)
  (b6:cE G fuel (av st) (aY (av st)) e1=some c1) (b7:cE G fuel (av st) (aY (av st)) e2=some c2) (b8:lamX.lookup j=some L) (b9:ScOk L.sc) (k4:cL (fQ (av st) (aY (av st))) (aG L.sc)=some ks) (b11:x++".<locals>.<lambda>"=L.q) (b12:∀env,defaultsOf L.la env=([],[])) :
  FnOk P w K mg base dJ (n+3) a (PySem.W.fnOf x x (dR st) (bJ st) (av st) dV kV doc pm an (.ref c) ct) ps (cz K ps.length (aC tab (n+1) i)):=by
 have gg:∀(A:Around) (outer:List Env) (s:Shared) (H:Hp) (E:XK),Room (n+2) (A.deeper (envOfC x (av st) s.heap.objs.size a (.ref c)))->XG (aC tab n) G (n+2) (gI dJ P w K mg base (aY (av st)) x (av st) a (.ref c) A outer s H E).nox (av st) (aY (av st)):=λA outer s H E hr=>by
  refine⟨rfl,Sc.nd,λy h=>?_,λy h=>?_,λy h=>?_,λy h=>?_,rfl,rfl,hr,λy j h=>S.d y j h _ rfl rfl rfl rfl rfl,λy _ h=>hb y h,hc,λu hm=>S.m u hm _ rfl rfl rfl rfl rfl,λ_=>qH 2 n,dz,S.l⟩
  ·unfold iA at h
   simp only [dD,beq_iff_eq] at h
   rcases h with (h|h)|h
   ·exact .inl h
   ·exact .inr (.inl h)
   ·exact .inr (.inr h)
  ·simp only [dD,beq_iff_eq] at h
   exact⟨h,.inl rfl⟩
  ·unfold bf at h
   rw [beq_iff_eq] at h
   exact h
  ·unfold ip at h
   simp only [dD,beq_iff_eq] at h
   exact h
 refine xP lk hcd Sc (λvs H Q E h=>h.1) (λA outer s H vs Q E hr h=>?_)
 obtain⟨hvl,F,ds,r,tb,dom,rds,hcall,hq⟩:=h
 rw [lW ht] at hcall
 unfold iD at hcall
 split at hcall
 ·rename_i hal
  obtain⟨o,e3,e4⟩:=ae hcall
  have xg:=gg A outer s H E hr
  have AE:=(jk (call:=aC tab n) (k:=n+2) hG fuel).e
  obtain⟨bm,bo,m1,m2,m3,m4,m5,m6,m7,m8⟩:=hbm
  obtain⟨te,pe,qe⟩:=qJA (p:=p1) (pos:=p2) xg b3 b4 b5 (fv b6) (fv b7) (AE _ _ _ _ _ xg b6).he (AE _ _ _ _ _ xg b7).he b8 b9 k4 ⟨by rw [<-b11];rfl,b12 _,⟨c,rfl,PySem.W.codeHd_of_K kb hch⟩,⟨bm,bo,m1,m2,m3,m4,kb _ _ m5,m6,m7,m8⟩,λ_=>rfl⟩
  rw [b1]
  rw [b2,dY] at e3
  obtain⟨o1,e5,e6⟩:=ae e3
  rw [mi] at e5
  obtain⟨r',e7,e8⟩:=ae e5
  cases e8
  cases e6
  cases e4
  exact⟨_,(qMK (rV pe)).nox,qe ⟨H,none,tb⟩ H F _ _ r _ e7 (tq tb dom rds (by rw [hp,hn,hvl])) λv H' F' g' rr=>hq v H' F' g' rr⟩
 ·cases hcall
theorem stp (hG:∀x∈bP,G.defs.lookup x=none) (hb:∀x∈bP,mg x=none) (hc:CnD P w K mg G) (dz:∀u∈G.meth,u.kn.c<CL) (kb:K.In base) (hd:∀x i,G.defs.lookup x=some i->DefIn K mg G tab fuel x i∨LdIn K mg G tab fuel x i) (pZ:∀u∈G.meth,MthIn K mg G tab fuel u.c u.m u.i u.kn.c u.kn.ns) (iQ:∀j L,lamX.lookup j=some L->LamIn G tab fuel j L) (n:Nat):Stp P w K mg base G tab n:=by
 induction n with
 | zero =>
  refine⟨λx i h X e1 e2 e3 e4 e5=>?_,λu hm X e1 e2 e3 e4 e5=>?_,λi L h=>Ak (λ_=>rfl) (iQ i L h)⟩
  ·subst e1 e2 e3 e4 e5
   rcases hd x i h with h|h
   ·obtain⟨a2,fdt2,st2,ps2,fd2,q1,q2,q3,q4,q5,q6,q7,q8,q9⟩:=h.ex
    exact⟨a2,fdt2,ps2,q1,q2.kp,q3,sE,λds r hr=>(nomatch hr),q9⟩
   ·obtain⟨a,c,st,ps,fd,oc,dV,kV,doc,pm,ct,od,an,osl,g,p1,p2,p3,e1,e2,c1,c2,ig,j,ks,L,q1,q2,q3,q4,q5,q6,q7,q8,q9,fy,hJ,b1,b2,b3,b4,b5,b6,b7,b8,b9,k4,b11,b12,b13⟩:=h.ex
    exact⟨a,_,ps,q1,q2,q4,sE,λds r hr=>(nomatch hr),λm d z=>Qn (b13.symm.trans z) nofun⟩
  ·subst e1 e2 e3 e4 e5
   obtain⟨fm,fdm,stm,psm,qm,fd2,q1,q2,q3,q4,fy,hJ,q12,q13,q14,q15,q16,q17,q18,q19⟩:=(pZ u hm).ex
   exact⟨fm,fdm,psm,q1,q2.imp (λ⟨fi,fdi,sti,psi,qi,z1,z2,z3,z4,z5,z6,z7⟩=>⟨fi,fdi,psi,z1,z3,zZ iQ hb z2 z4 z5 z6 z7⟩) id,q3,q4,fy,q12,sE,λds r hr=>(nomatch hr),q18,q19⟩
 | succ n S =>
  refine⟨λx i h X e1 e2 e3 e4 e5=>?_,λu hm X e1 e2 e3 e4 e5=>?_,λi L h=>qKc hG hb hc dz S.d S.m S.l (iQ i L h)⟩
  ·subst e1 e2 e3 e4 e5
   rcases hd x i h with h|h
   ·obtain⟨a2,fdt2,st2,ps2,fd2,q1,q2,q3,q4,q5,q6,q7,q8,q9⟩:=h.ex
    exact⟨a2,fdt2,ps2,q1,q2.kp,q3,sC hG hb hc dz S q2 q4 q5 q6 q7 q8,λds r hr=>(sS q6 hr).trans q7,q9⟩
   ·obtain⟨a,c,st,ps,fd,oc,dV,kV,doc,pm,ct,od,an,osl,g,p1,p2,p3,e1,e2,c1,c2,ig,j,ks,L,q1,q2,q3,q4,q5,q6,q7,q8,q9,fy,hJ,b1,b2,b3,b4,b5,b6,b7,b8,b9,k4,b11,b12,b13⟩:=h.ex
    exact⟨a,_,ps,q1,q2,q4,qNk hG hb hc dz kb S q3 q5 q6 q7 q8 q9 fy hJ b1 b2 b3 b4 b5 b6 b7 b8 b9 k4 b11 b12,λds r hr=>(sS q9 hr).trans fy,λm d z=>Qn (b13.symm.trans z) nofun⟩
  ·subst e1 e2 e3 e4 e5
   obtain⟨fm,fdm,stm,psm,qm,fd2,q1,q2,q3,q4,fy,hJ,q12,q13,q14,q15,q16,q17,q18,q19⟩:=(pZ u hm).ex
   exact⟨fm,fdm,psm,q1,q2.imp (λ⟨fi,fdi,sti,psi,qi,z1,z2,z3,z4,z5,z6,z7⟩=>⟨fi,fdi,psi,z1,z3,zZ iQ hb z2 z4 z5 z6 z7⟩) id,q3,q4,fy,q12,sC hG hb hc dz S hJ q13 q14 q15 q16 q17,λds r hr=>(sS q15 hr).trans q16,q18,q19⟩
theorem qPI {n i:Nat}(h:∀ns:List Int,ns.length<=63->(∀i∈ns,2 * i.natAbs<fF)->aC tab n i [.lst (ns.map .int)]=some (false,.bl true)) (H:Hp) (tb:TB H) (a:Addr) (ns:List Int) (hl:ns.length<=63) (hw:∀i∈ns,2 * i.natAbs<fF) (hS:SqL K H a (ns.map V.int)) (E:XK):cz K 1 (aC tab n i) [.ref a] H (λv H'=>v=.bl true/\TB H') E:=by
 rcases hS with hS|hS
 ·refine⟨rfl,λb=>b=a,[.lst (ns.map .int)],(false,.bl true),tb,λb e z=>?_,⟨.ref a,[],rfl,.inl ⟨a,ns.map V.int,rfl,.inl ⟨rfl,hS⟩,RDs.of_ints ns⟩,rfl⟩,h ns hl hw,λv H' F' g rr=>⟨rr,tb.same g.same⟩⟩
  subst z
  rcases hS with q|⟨o,q⟩<;>(rw [e] at q;cases q)
 ·exact⟨rfl,λ_=>False,[.lst (ns.map .int)],(false,.bl true),tb,λ_ _ z=>z,⟨.ref a,[],rfl,.inl ⟨a,ns.map V.int,rfl,.inr hS,RDs.of_ints ns⟩,rfl⟩,h ns hl hw,λv H' F' g rr=>⟨rr,tb.same g.same⟩⟩
end
def j1 (b:Addr):Option HO:=(tbs.find? λt=>t.1 == b).map λt=>.tab t.2.1 t.2.2
theorem Bj {b:Addr}{u:HO}(h:j1 b=some u):∃t∈tbs,t.1=b/\u=.tab t.2.1 t.2.2:=by
 obtain⟨t,e1,e2⟩:=yac.mp h
 exact⟨t,List.mem_of_find?_eq_some e1,by simpa using List.find?_some e1,e2.symm⟩
theorem qH0 {P:Program}{w:World}{K:Qb}{mg mb:Str->Option Value}{k:Nat}{fa a:Addr}{fd:FuncData}{x:Str}{sp:Sp}{s₁:Shared}{vs:List Value}{ns:List Int}
  (KX:K.In s₁.heap) (hns:s₁.heap.Ns mainGlobals mg) (hb:s₁.heap.Ns builtinsNs mb) (hbb:∀x:Str,x≠"__name__"->mb x=Qo x) (hlim:s₁.heap.NoLimit) (hg:s₁.gens=#[])
  (ha:s₁.heap.get? a=some { cls:=.type "list",data:=.seq vs.toArray }) (hi:IntsAre vs ns) (hl:ns.length<=sizeLine) (hr:Room k callerA)
  (htb:TB j1) (hto:∀t∈tbs,s₁.heap.get? t.1=some (PySem.W.tabObj #[])/\isCodeTable s₁.heap t.1/\K.lookup t.1=none)
  (F:∀base:Heap,K.In base->base.Ns mainGlobals mg->FnOk P w K mg base dJ k fa fd [x] sp) (hbind:∀(s:Shared) (u:Value),BindsTo s fd ⟨[u],[]⟩ [(x,u)])
  (hsp:∀H:Hp,TB H->SqL K H a (ns.map V.int)->sp [.ref a] H (λv H'=>v=.bl true/\TB H') λ_ _ _=>False) :
  codeAny (model P w) callerA (.call (.ref fa) ⟨[.ref a],[]⟩) (λr s'=>r=.ok (.ret (.bool true))/\OldK s₁.heap s'.heap/\s'.os=s₁.os/\AllBare s'.gens) s₁:=by
 have rv:=tQ hi
 have nt:j1 a=none:=by
  cases q:j1 a with
  | none=>rfl
  | some u =>
   obtain⟨t,hm,rfl,_⟩:=Bj q
   rw [(hto t hm).1] at ha
   cases ha
 let o0:Obj:={ cls:=.type "list",data:=.seq vs.toArray }
 let H:Hp:=λb=>if b=a/\K.lookup a=none then some (.frz o0 (.lst (ns.map V.int))) else j1 b
 have cs:∀b u,H b=some u->(b=a/\K.lookup a=none/\u=.frz o0 (.lst (ns.map V.int)))∨∃t∈tbs,t.1=b/\u=.tab t.2.1 t.2.2:=λb u e=>by
  by_cases z:b=a/\K.lookup a=none
  ·have e':=(Ql z).symm.trans e
   cases e'
   exact .inl ⟨z.1,z.2,rfl⟩
  ·exact .inr (Bj ((Qm z).symm.trans e))
 have tb:TB H:=λt hm=>by
  have:¬(t.1=a/\K.lookup a=none):=λz=>by have:=htb t hm;rw [z.1,nt] at this;cases this
  exact (Qm this).trans (htb t hm)
 have hok:HOk P w H s₁.heap:=λb u e=>by
  rcases cs b u e with ⟨rfl,_,rfl⟩|⟨t,hm,rfl,rfl⟩
  ·exact⟨ha,by rw [lr];exact hl,vs,_,rv,ha⟩
  ·exact⟨#[],(hto t hm).1,trivial,.inl rfl⟩
 have nsK:∀{b:Addr} {m:Str->Option Value},s₁.heap.Ns b m->(iu s₁.heap H).Ns b m:=λ{b m} ⟨o,es,ep,e,d,r⟩=>⟨o,es,ep,A5 e (by
  cases q:H b with
  | none=>rfl
  | some u =>
   rcases cs b u q with ⟨rfl,_,_⟩|⟨t,hm,rfl,_⟩
   ·rw [ha] at e;cases e;cases d
   ·rw [(hto t hm).1] at e;cases e;cases d),d,r⟩
 have hKb:K.In (iu s₁.heap H):=λb o e=>A5 (KX b o e) (by
  cases q:H b with
  | none=>rfl
  | some u =>
   rcases cs b u q with ⟨rfl,z,_⟩|⟨t,hm,rfl,_⟩
   ·rw [z] at e;cases e
   ·rw [(hto t hm).2.2] at e;cases e)
 have hS:SqL K H a (ns.map V.int):=by
  cases hk:K.lookup a with
  | none=>exact .inl (.inr ⟨o0,Ql ⟨rfl,hk⟩⟩)
  | some o =>
   have e:=KX a o hk
   rw [ha] at e
   cases e
   exact .inr ⟨_,vs.toArray,_,hk,rfl,rfl,rfl,by rw [aZ,hi.length];exact hl,by simpa using rv⟩
 have hM:Mod K mg (iu s₁.heap H):=⟨hKb,nsK hns,⟨mb,nsK hb,hbb⟩,let ⟨mc,h1,h2⟩:=hlim;⟨mc,nsK h1,h2⟩⟩
 have e0:Env0 P w K mg (iu s₁.heap H) callerA [] s₁ H:=⟨rfl,hM,λb o e=>qM7 e,Nat.le_of_eq (qH9 _ _),trivial,λb hb=>Qn (show b∈([]:List Addr) from hb) (by simp),hok,.of_eq hg⟩
 refine codeAny_mono ((F _ hKb (nsK hns)).run callerA [] s₁ H ⟨[.ref a],[]⟩ [.ref a] [.ref a] _ _ hr e0 (hbind s₁ (.ref a)) (.cons rfl .nil) (hsp H tb hS)) λr s' h=>?_
 cases r with
 | error e=>exact False.elim h
 | ok fl =>
  cases fl with
  | next=>exact False.elim h
  | brk=>exact False.elim h
  | cont=>exact False.elim h
  | ret u =>
   obtain⟨v,H',os,bare,un,hok',r',rfl,tb'⟩:=h
   obtain rfl:u=Value.bool true:=r'
   have old:∀b o,s₁.heap.get? b=some o->asItWas s₁.heap s'.heap b o/\∃o',s'.heap.get? b=some o':=λb o e=>by
    cases q:H b with
    | none =>
     have:=un.keep b o e q (by intro z;exact Qn (show b∈([]:List Addr) from z) (by simp)) (by simp)
     exact⟨.inl this,_,this⟩
    | some u =>
     rcases cs b u q with ⟨rfl,_,rfl⟩|⟨t,hm,rfl,rfl⟩
     ·have z2:=un.frzs b _ _ q
      obtain⟨e1,_⟩:=hok b _ q
      obtain⟨e2,_⟩:=hok' b _ z2
      rw [e] at e1
      cases e1
      exact⟨.inl e2,_,e2⟩
     ·obtain⟨e1,e2,_⟩:=hto t hm
      rw [e] at e1
      cases e1
      obtain⟨ps,e3,_⟩:=hok' t.1 _ (tb' t hm)
      exact⟨.inr (.inl ⟨e2,rfl,#[],ps,rfl,by rw [e3];simp⟩),_,e3⟩
   exact⟨rfl,⟨λb o e=>(old b o e).1,λb o e=>(old b o e).2⟩,os,bare⟩
theorem yK:∀(ns:List Int) (i:Int),i∈ns->PySem.W.WData.weight (.int i)+1<=PySem.W.WData.weightAll (ns.map PySem.W.WData.int)
 | [],i,h=>nomatch h
 | n::ns,i,h=>by
  rw [gd,PySem.W.WData.weightAll]
  rcases yaf.mp h with rfl|h
  ·omega
  ·have:=yK ns i h
   omega
theorem qKb {ns:List Int}(h:PySem.W.WData.layableAll [.list (ns.map PySem.W.WData.int)]=true) (i:Int) (hi:i∈ns):2 * i.natAbs<fF:=by
 unfold PySem.W.WData.layableAll at h
 rw [eS,aL] at h
 have h1:=h.1
 unfold PySem.W.WData.layable at h1
 rw [aL] at h1
 have h2:PySem.W.WData.weight (.list (ns.map PySem.W.WData.int))<=2^20:=Qp h1.2
 rw [PySem.W.WData.weight] at h2
 have h3:=yK ns i hi
 rw [PySem.W.WData.weight] at h3
 by_cases hz:i=0
 ·subst hz
  exact Nat.pow_pos (by decide)
 ·rw [Qm (by simpa using hz)] at h3
  have h4:i.natAbs<2^(i.natAbs.log2+1):=Nat.lt_log2_self
  have h5:2 * i.natAbs<2^(i.natAbs.log2+2):=by rw [Nat.pow_succ];omega
  exact cw h5 (Nat.pow_le_pow_right (by decide) (by omega))
theorem dw_walk {l:PySem.W.OpenLaw}{q:Program}{loose:List Str}{XP:(Str->Option Value)->Heap->Prop}{YP:World->Heap->Prop}{d:DefRec}{K:Params->Qb}{tab:List Fd}{n i:Nat}(hlaw:∀ns:List Int,ns.length<=63->(∀i∈ns,2 * i.natAbs<fF)->aC tab n i [.lst (ns.map .int)]=some (false,.bl true))
  (hn:l.most=some 63) (hdf:d.params.defaults=[]) (hr:Room (n+2) callerA) (hY:∀(w:World) (h:Heap),YP w h->(K w.params).In h) (htb:TB j1) (hT:∀(w:World) (h:Heap),YP w h->∀t∈tbs,h.get? t.1=some (PySem.W.tabObj #[])) (hC:∀(w:World),∀t∈tbs,(∃c,PySem.W.codeHdIn (K w.params) c t.1=true)/\(K w.params).lookup t.1=none)
  (F:∀(w:World) (mg:Str->Option Value) (fa:Addr) (h:Heap),(K w.params).In h->h.Ns mainGlobals mg->mg d.name=some (.ref fa) ->
   ∃fd:FuncData,(∀(s:Shared) (u:Value),BindsTo s fd ⟨[u],[]⟩ [("script",u)])/\∀base:Heap,(K w.params).In base->base.Ns mainGlobals mg->FnOk l.prog w (K w.params) mg base dJ (n+2) fa fd ["script"] (cz (K w.params) 1 (aC tab n i))) :
  PySem.W.WalkO q loose XP YP l.row.toRowW d [] (λf vs=>PySem.call f vs):=by
 intro w t₀ t₁ mg mb g y fa o pm cd doc v₁ v₂ ho hd hc e1 e2 e3 args vals as e4 lay e5 e6 e7
 obtain rfl:v₁=.none:=PySem.W.Dflts.none e1 hdf
 obtain rfl:v₂=.none:=PySem.W.Dflts.noKw e1
 obtain⟨a,vs,ns,rfl,rfl,s1,s2,s3⟩:=Att.script_of hn e4 e6
 have kx:=hY w _ y
 obtain⟨fd,hb,hF⟩:=F w mg fa _ kx g.T.g e2
 refine PySem.W.enter_call (codeAny_mono (qH0 kx g.T.g g.T.b g.T.builtins g.T.nolimit e3 s1 s2 (dM s3 (by decide)) hr htb (λt hm=>⟨hT w _ y t hm,?_,(hC w t hm).2⟩) hF hb λH tb hS=>qPI hlaw H tb a ns s3 (qKb lay) hS _) λr s' z=>?_)
 ·obtain⟨c,hc⟩:=(hC w t hm).1
  obtain⟨o,vs,_,_,_,_,_,_,_,q1,q2,q3,q4,_⟩:=PySem.W.codeHd_of_K kx hc
  exact⟨c,o,vs,q1,q2,q3,q4⟩
 obtain⟨rfl,z2,z3,z4⟩:=z
 exact⟨.inl ⟨.bool true,.bool true,[],rfl,λ_=>rfl,.bool true,Att.post_true l _,λ_=>⟨List.Pairwise.nil,λ_ hm=>(nomatch hm)⟩⟩,z2,z3,z4⟩
end Dw
set_option exponentiation.threshold 6000
namespace Dw.T
open Dw
noncomputable abbrev tx (s:String):D:=.str (Qa s)
noncomputable abbrev kI (n:Int):C:=.k (.int n)
noncomputable abbrev V0:C:=.v 0
noncomputable abbrev V1:C:=.v 1
noncomputable abbrev V2:C:=.v 2
noncomputable abbrev V3:C:=.v 3
noncomputable abbrev V4:C:=.v 4
noncomputable abbrev V5:C:=.v 5
noncomputable abbrev V6:C:=.v 6
noncomputable abbrev V7:C:=.v 7
noncomputable abbrev V8:C:=.v 8
noncomputable abbrev V9:C:=.v 9
noncomputable abbrev d3:C:=.v 10
noncomputable abbrev mV:C:=.v 11
noncomputable abbrev TBv:List (Nat×Nat):=[(415,74),(455,76),(495,78),(535,80),(575,82),(615,84),(655,86),(695,88),(735,90),(775,92),(815,94),(855,96)]
noncomputable abbrev TBs:List (Nat×Nat):=[(415,73),(455,75),(495,77),(535,79),(575,81),(615,83),(655,85),(695,87),(735,89),(775,91),(815,93),(855,95)]
abbrev v7:List S:=[.ext 1 (.call 27 [V2])]
abbrev v8:List S:=[.set 1 false (.call 20 [V1,V2])]
abbrev v5:List S:=[.ext 3 (.compS (.call 8 [V0]) 1 [] (.one 0) (.call 33 [V4,V5,V1,V2]))]
abbrev wc:List S:=[.set 4 false (.call 43 [V5,V6,V4]),.set 4 false (.call 43 [V6,V5,V4])]
abbrev wb:List S:=[.set 5 false (.call 55 [V4,V1,V2]),.ite (.cmp .notin (.ix V5 (kI 0)) (.compS (.ix V0 (kI 0)) 1 [] (.one 0) V3)) [.app 3 V5] []]
abbrev v3:List S:=[.ite (.or (.not (.isi V1 .tuple)) (.or (.cmp .ne (.bi .len [V1]) (kI 2)) (.or (.not (.call 69 [(.ix V1 (kI 0))])) (.not (.isi (.ix V1 (kI 1)) .str))))) [.ret (.k (.bl false))] []]
abbrev v9:List S:=[.set 4 false (.bi .max [(kI 0),(.bin .sub (.ix (.ix V0 V3) (kI 0)) (.ix (.ix V1 V3) (kI 1))),(.bin .sub (.ix (.ix V1 V3) (kI 0)) (.ix (.ix V0 V3) (kI 1)))]),.set 2 false (.bin .add V2 (.bin .mul V4 V4))]
abbrev wa:List S:=[.set 5 false (.bin .sub (.call 52 [V0,(.bin .add (kI 40) (.bin .mul (kI 2) V4)),(.bin .add (.bin .mul (kI 44) (.ix V2 (kI 0))) (kI 1))]) (.bin .mul (kI 22) (.ix V2 (kI 0)))),.app 3 (.tup [V5,(.bin .add V5 (.call 52 [V0,(.bin .add (kI 41) (.bin .mul (kI 2) V4)),(.bin .add (.bin .mul (kI 24) (.ix V2 (kI 0))) (kI 1))]))])]
abbrev zbD:List S:=[.set 5 false (.call 52 [V4,(kI 58),(kI 5)]),.ite (.cmp .lt V5 (kI 2)) [.set 3 false (.tup [(.ix (.lst [(.k (tx "both")),(.k (tx "either"))]) V5),V3,(.call 62 [V4,V1,V2])])] [.ite (.cmp .lt V5 (kI 4)) [.set 3 false (.tup [(.ix (.lst [(.k (tx "both")),(.k (tx "either"))]) (.bin .sub V5 (kI 2))),(.tup [(.k (tx "unless")),(.call 62 [V4,V1,V2])]),V3])] [.set 3 false (.tup [(.k (tx "unless")),V3])]]]
noncomputable def yn:Fd:=⟨0,0,[]⟩
def f_side_at:Fd:=⟨2,2,[.ret (.tup [(.bin .add (.ix V0 (kI 0)) (.bin .mul (.ix V0 (kI 2)) V1)),(.bin .add (.ix V0 (kI 1)) (.bin .mul (.ix V0 (kI 3)) V1))])]⟩
def f_side_joined:Fd:=⟨2,2,[.ret (.tup [(.bi .min [(.ix V0 (kI 0)),(.ix V1 (kI 0))]),(.bi .max [(.ix V0 (kI 1)),(.ix V1 (kI 1))]),(.bi .min [(.ix V0 (kI 2)),(.ix V1 (kI 2))]),(.bi .max [(.ix V0 (kI 3)),(.ix V1 (kI 3))])])]⟩
def f_side_narrowed:Fd:=⟨2,2,[.ret (.tup [(.bi .max [(.ix V0 (kI 0)),(.ix V1 (kI 0))]),(.bi .min [(.ix V0 (kI 1)),(.ix V1 (kI 1))]),(.bi .max [(.ix V0 (kI 2)),(.ix V1 (kI 2))]),(.bi .min [(.ix V0 (kI 3)),(.ix V1 (kI 3))])])]⟩
def f_still_swath:Fd:=⟨1,1,[.ret (.bi .tuple [(.compS (.tup [(.ix V0 (kI 0)),(.ix V0 (kI 1)),(kI 0),(kI 0)]) 1 [] (.one 0) V0)])]⟩
def f_frame_at:Fd:=⟨2,2,[.ret (.bi .tuple [(.compS (.call 1 [V0,V1]) 1 [1] (.one 0) V0)])]⟩
def f_frames_joined:Fd:=⟨2,2,[.ret (.bi .tuple [(.compZ (.call 2 [V0,V1]) 2 [] (.two 0 1) V0 V1)])]⟩
def f_frames_narrowed:Fd:=⟨2,2,[.ret (.bi .tuple [(.compZ (.call 3 [V0,V1]) 2 [] (.two 0 1) V0 V1)])]⟩
def BV:Fd:=⟨1,1,[.ret (.ix V0 (kI 0))]⟩
def qDZ:Fd:=⟨1,1,[.ret (.ix V0 (kI 1))]⟩
def qD0:Fd:=⟨1,1,[.ret (.ix V0 (kI 2))]⟩
def qDY:Fd:=⟨1,1,[.ret (.ix V0 (kI 3))]⟩
def f_thing_box:Fd:=⟨2,2,[.ret (.call 5 [(.call 9 [V0]),V1])]⟩
def qEA:Fd:=⟨1,1,[.ret (.ix V0 (kI 0))]⟩
def qEy:Fd:=⟨1,1,[.ret (.ix V0 (kI 1))]⟩
def qFd:Fd:=⟨1,1,[.ret (.ix V0 (kI 2))]⟩
def qEz:Fd:=⟨1,1,[.ret (.ix V0 (kI 3))]⟩
def qEx:Fd:=⟨1,1,[.ret (.ix V0 (kI 5))]⟩
def qFe:Fd:=⟨1,1,[.ret (.ix V0 (kI 6))]⟩
def f_thing_told:Fd:=⟨1,4,[.set 1 false (.call 9 [V0]),.set 2 false (.call 10 [V0]),.set 3 false (.call 11 [V0]),.ret (.tup [V1,V1,V2,V2,(kI 1),V3,V3,V3])]⟩
def f_told_poured:Fd:=⟨2,2,[.ite (.isC false V0 .non) [.ret V1] [],.ite (.isC false V1 .non) [.ret V0] [],.ret (.tup [(.call 6 [(.ix V0 (kI 0)),(.ix V1 (kI 0))]),(.call 7 [(.ix V0 (kI 1)),(.ix V1 (kI 1))]),(.bin .bor (.ix V0 (kI 2)) (.ix V1 (kI 2))),(.bin .band (.ix V0 (kI 3)) (.ix V1 (kI 3))),(.bin .add (.ix V0 (kI 4)) (.ix V1 (kI 4))),(.bi .min [(.ix V0 (kI 5)),(.ix V1 (kI 5))]),(.bi .max [(.ix V0 (kI 6)),(.ix V1 (kI 6))]),(.bin .add (.ix V0 (kI 7)) (.ix V1 (kI 7)))])]⟩
def f_tolds_poured:Fd:=⟨1,3,[.set 1 false (.k .non),.forS (.one 2) V0 v8,.ret V1]⟩
def f_is_leaf:Fd:=⟨1,1,[.ret (.cmp .eq (.ix V0 (kI 0)) (.k (tx "leaf")))]⟩
def f_page_told:Fd:=⟨1,1,[.ret (.ix V0 (kI 1))]⟩
def f_page_parts:Fd:=⟨1,1,[.ret (.ix V0 (kI 2))]⟩
def f_things_tolds:Fd:=⟨1,1,[.ret (.bi .tuple [(.compS (.call 19 [V0]) 1 [] (.one 0) V0)])]⟩
def f_make_leaf:Fd:=⟨1,1,[.ret (.tup [(.k (tx "leaf")),(.call 21 [(.call 25 [V0])]),V0])]⟩
def f_things_in:Fd:=⟨1,3,[.ite (.call 22 [V0]) [.ret (.call 24 [V0])] [],.set 1 true (.lst []),.forS (.one 2) (.call 24 [V0]) v7,.ret (.bi .tuple [V1])]⟩
def f_want_word:Fd:=⟨3,3,[.ite (.isC false V1 .non) [.ret (.k (tx "shut"))] [],.ret (.tbl [((Qa "none"),(Qa "shut")),((Qa "every"),(Qa "whole")),((Qa "open"),(Qa "open"))] (.mc V0 (Qa "verdict") TBv [V1,V2]))]⟩
def f_cut_from:Fd:=⟨3,7,[.set 3 false (.cv 2 (.call 23 [V0])),.set 4 true (.lst [(.tup [V1,V3,V0])]),.ite (.and (.cmp .eq V3 (.k (tx "open"))) (.not (.call 22 [V0]))) [.forE (.two 5 6) (.call 24 [V0]) [.ext 4 (.call 29 [V6,(.bin .add V1 (.tup [V5])),V2])]] [],.ret V4]⟩
def f_want_cut:Fd:=⟨3,3,[.ret (.lamc 29 [V0,(.tup [])] 97 [2,1])]⟩
def f_paper_of:Fd:=⟨1,1,[.ret (.bi .tuple [(.compS (.tup [V0,V1]) 3 [] (.many [0,1,2]) V0)])]⟩
def f_suiting_in:Fd:=⟨3,3,[.ret (.bi .tuple [(.compF V0 (.mc V2 (Qa "suits") TBs [V0,V1]) 1 [2,1] (.one 0) V0)])]⟩
def f_things_of_row:Fd:=⟨4,4,[.ite (.cmp .eq V0 (.k (tx "whole"))) [.ret (.call 27 [V1])] [],.ite (.and (.cmp .eq V0 (.k (tx "open"))) (.call 22 [V1])) [.ret (.call 32 [(.call 24 [V1]),V2,V3])] [],.ret (.tup [])]⟩
def f_handles_of:Fd:=⟨3,6,[.set 3 true (.lst []),.forS (.two 4 5) V0 v5,.ret (.bi .tuple [(.bi .sorted [V3])])]⟩
def f_all_that:Fd:=⟨3,4,[.set 3 false (.call 30 [V0,V1,V2]),.ret (.tup [(.call 34 [(.compS (.tup [V1,V2]) 3 [] (.many [0,1,2]) V3),V1,V2]),(.call 31 [V3])])]⟩
def f_sides_meet:Fd:=⟨2,2,[.ret (.and (.cmp .le (.ix V0 (kI 0)) (.ix V1 (kI 1))) (.cmp .le (.ix V1 (kI 0)) (.ix V0 (kI 1))))]⟩
def f_side_inside:Fd:=⟨2,2,[.ret (.and (.cmp .ge (.ix V0 (kI 0)) (.ix V1 (kI 0))) (.cmp .le (.ix V0 (kI 1)) (.ix V1 (kI 1))))]⟩
def f_side_gap:Fd:=⟨2,2,[.ret (.bi .max [(kI 0),(.bin .sub (.ix V0 (kI 0)) (.ix V1 (kI 1))),(.bin .sub (.ix V1 (kI 0)) (.ix V0 (kI 1)))])]⟩
def f_boxes_meet:Fd:=⟨2,2,[.ret (.bi .all [(.compZ (.call 36 [V0,V1]) 2 [] (.two 0 1) V0 V1)])]⟩
def f_box_inside:Fd:=⟨2,2,[.ret (.bi .all [(.compZ (.call 37 [V0,V1]) 2 [] (.two 0 1) V0 V1)])]⟩
def f_box_gap:Fd:=⟨2,3,[.set 2 false (.compZ (.call 38 [V0,V1]) 2 [] (.two 0 1) V0 V1),.ret (.bi .sum [(.compS (.bin .mul V0 V0) 1 [] (.one 0) V2)])]⟩
def f_beats_of:Fd:=⟨4,6,[.ite (.and (.cmp .eq V1 (kI 0)) (.cmp .gt V0 (kI 0))) [.ret (.k .non)] [],.set 4 false V2,.set 5 false V3,.ite (.cmp .gt V1 (kI 0)) [.set 4 false (.bi .max [V2,(.neg (.bin .fdiv (.neg V0) V1))])] [],.ite (.cmp .lt V1 (kI 0)) [.set 5 false (.bi .min [V3,(.bin .fdiv V0 V1)])] [],.ite (.cmp .gt V4 V5) [.ret (.k .non)] [],.ret (.tup [V4,V5])]⟩
def f_beats_below:Fd:=⟨3,3,[.ite (.isC false V2 .non) [.ret (.k .non)] [],.ret (.call 42 [(.bin .sub (.ix V0 (kI 0)) (.ix V1 (kI 1))),(.bin .sub (.ix V1 (kI 3)) (.ix V0 (kI 2))),(.ix V2 (kI 0)),(.ix V2 (kI 1))])]⟩
def f_meeting:Fd:=⟨4,7,[.set 4 false (.tup [V2,V3]),.forZ (.two 5 6) V0 V1 wc,.ret V4]⟩
def f_verdict_from:Fd:=⟨2,2,[.ite V0 [.ret (.k (tx "every"))] [],.ite V1 [.ret (.k (tx "none"))] [],.ret (.k (tx "open"))]⟩
def f_cover_at:Fd:=⟨2,2,[.ret (.call 5 [(.call 13 [V0]),V1])]⟩
def f_heart_at:Fd:=⟨2,2,[.ret (.call 5 [(.call 14 [V0]),V1])]⟩
def f_has_each:Fd:=⟨2,2,[.ret (.cmp .eq (.bin .band V0 V1) V1)]⟩
def f_has_one:Fd:=⟨2,2,[.ret (.cmp .ne (.bin .band V0 V1) (kI 0))]⟩
def f_crosses_box:Fd:=⟨4,4,[.ret (.isC true (.call 44 [V0,(.call 4 [V1]),V2,V3]) .non)]⟩
def f_law_cell_at:Fd:=⟨2,2,[.ite (.cmp .lt V1 (.bi .len [V0])) [.ret (.ix V0 V1)] [],.ret (kI 0)]⟩
def f_law_draw:Fd:=⟨3,5,[.set 3 false (kI 170141183460469231731687303715884105727),.set 4 false (.bin .mod (.bin .mul (.bin .add (.bin .mul V0 (kI 2)) (kI 1)) (.bin .add (.bin .mul (.bin .mul V1 V1) (kI 9176023)) (kI 84127918273645463728191))) V3),.ret (.bin .mod (.bin .fdiv (.bin .mod (.bin .mul V4 (.bin .add V4 (kI 5))) V3) (kI 7)) V2)]⟩
def f_law_scale:Fd:=⟨1,1,[.ret (.ix (.lst [(.tup [(kI 1),(kI 3),(kI 13)]),(.tup [(kI 1),(kI 0),(kI 2)]),(.tup [(.bin .pow (kI 10) (kI 28)),(.bin .pow (kI 10) (kI 14)),(.bin .add (.bin .pow (kI 10) (kI 15)) (kI 1))])]) (.call 52 [V0,(kI 90),(kI 3)]))]⟩
def f_law_side_by:Fd:=⟨3,6,[.set 3 false (.bin .sub (.call 52 [V0,(.bin .add (.bin .mul (kI 5) V1) (kI 1)),(.bin .add (.bin .mul (kI 40) (.ix V2 (kI 0))) (kI 1))]) (.bin .mul (kI 20) (.ix V2 (kI 0)))),.set 4 false (.bin .add V3 (.bin .mul (.call 52 [V0,(.bin .add (.bin .mul (kI 5) V1) (kI 2)),(.bin .add (.bin .mul (kI 6) (.ix V2 (kI 0))) (kI 1))]) (.call 52 [V0,(.bin .add (.bin .mul (kI 5) V1) (kI 3)),(kI 2)]))),.set 5 false (.bin .sub (.call 52 [V0,(.bin .add (.bin .mul (kI 5) V1) (kI 4)),(.bin .add (.bin .mul (kI 2) (.ix V2 (kI 1))) (kI 1))]) (.ix V2 (kI 1))),.ret (.tup [V3,V4,V5,V5])]⟩
def f_law_thing_by:Fd:=⟨3,6,[.set 3 false (.call 52 [V0,(kI 21),(.ix (.lst [(kI 90),(.bin .add (.bin .pow (kI 10) (kI 18)) (kI 1))]) (.call 52 [V0,(kI 22),(kI 2)]))]),.set 4 false (.ix (.lst [(.call 52 [V0,(kI 23),(kI 65536)]),(.call 52 [V0,(kI 23),(kI 8)]),(kI 65535)]) (.call 52 [V0,(kI 24),(kI 3)])),.set 5 false (.ix (.lst [(.bin .sub (.call 52 [V0,(kI 25),(kI 7)]) (kI 3)),(.bin .sub (.call 52 [V0,(kI 26),(.bin .add (.bin .mul (kI 2) (.bin .pow (kI 10) (kI 30))) (kI 1))]) (.bin .pow (kI 10) (kI 30)))]) (.call 52 [V0,(kI 27),(kI 2)])),.ret (.tup [V3,(.bi .tuple [(.compR (.call 54 [V1,V0,V2]) 1 [0,2] (.one 0) [V1])]),V4,V5])]⟩
def f_law_things_by:Fd:=⟨3,6,[.set 3 true (.lst []),.forS (.one 4) V0 wb,.ret V3]⟩
def f_law_at:Fd:=⟨2,2,[.ret (.bi .tuple [(.compS (.tup [(.bin .add (.ix V0 (kI 0)) (.bin .mul (.ix V0 (kI 2)) V1)),(.bin .add (.ix V0 (kI 1)) (.bin .mul (.ix V0 (kI 3)) V1))]) 1 [1] (.one 0) V0)])]⟩
def f_law_touch:Fd:=⟨2,3,[.forR (.one 2) [(.bi .len [V0])] [.ite (.or (.cmp .gt (.ix (.ix V0 V2) (kI 0)) (.ix (.ix V1 V2) (kI 1))) (.cmp .gt (.ix (.ix V1 V2) (kI 0)) (.ix (.ix V0 V2) (kI 1)))) [.ret (.k (.bl false))] []],.ret (.k (.bl true))]⟩
def f_law_lies_in:Fd:=⟨2,3,[.forR (.one 2) [(.bi .len [V0])] [.ite (.or (.cmp .lt (.ix (.ix V0 V2) (kI 0)) (.ix (.ix V1 V2) (kI 0))) (.cmp .gt (.ix (.ix V0 V2) (kI 1)) (.ix (.ix V1 V2) (kI 1)))) [.ret (.k (.bl false))] []],.ret (.k (.bl true))]⟩
def f_law_gap_of:Fd:=⟨2,5,[.set 2 false (kI 0),.forR (.one 3) [(.bi .len [V0])] v9,.ret V2]⟩
def f_law_box_by:Fd:=⟨3,6,[.set 3 true (.lst []),.forR (.one 4) [V1] wa,.ret (.bi .tuple [V3])]⟩
def f_law_atom_by:Fd:=⟨3,7,[.set 3 false (.call 52 [V0,(kI 50),(kI 9)]),.set 4 false (.call 61 [V0,V1,V2]),.ite (.cmp .eq V3 (kI 0)) [.ret (.tup [(.k (tx "anything"))])] [],.ite (.cmp .lt V3 (kI 4)) [.ret (.tup [(.ix (.lst [(.k (tx "meets")),(.k (tx "inside")),(.k (tx "holds"))]) (.bin .sub V3 (kI 1))),V4])] [],.ite (.cmp .eq V3 (kI 4)) [.ret (.tup [(.k (tx "near")),V4,(.bin .mul (.call 52 [V0,(kI 51),(kI 201)]) (.bin .pow (.ix V2 (kI 0)) (kI 2)))])] [],.ite (.cmp .eq V3 (kI 5)) [.ret (.tup [(.k (tx "worthy")),(.ix (.lst [(.bin .sub (.call 52 [V0,(kI 25),(kI 7)]) (kI 3)),(.bin .sub (.call 52 [V0,(kI 52),(.bin .add (.bin .mul (kI 2) (.bin .pow (kI 10) (kI 30))) (kI 1))]) (.bin .pow (kI 10) (kI 30)))]) (.bin .mod V0 (kI 2)))])] [],.ite (.cmp .eq V3 (kI 6)) [.set 5 false (.call 52 [V0,(kI 53),(.ix V2 (kI 2))]),.ret (.tup [(.k (tx "crosses")),V4,V5,(.bi .min [(.bin .pow (kI 10) (kI 15)),(.bin .add V5 (.call 52 [V0,(kI 54),(kI 5)]))])])] [],.set 6 false (.ix (.lst [(.call 52 [V0,(kI 55),(kI 8)]),(.call 52 [V0,(kI 56),(kI 65536)]),(kI 0)]) (.call 52 [V0,(kI 57),(kI 3)])),.ret (.tup [(.ix (.lst [(.k (tx "marked")),(.k (tx "touched"))]) (.bin .sub V3 (kI 7))),V6])]⟩
def f_law_plain_by:Fd:=⟨3,6,[.set 3 false (.tup [(.k (tx "anything"))]),.ite (.cmp .ne V0 (.lst [])) [.set 3 false (.call 62 [(.ix V0 (kI 0)),V1,V2])] [],.forS (.one 4) (.sl V0 (some (kI 1)) none) zbD,.ret V3]⟩
def f_law_atom_of:Fd:=⟨1,1,[.ite (.cmp .eq (.ix V0 (kI 0)) (.k (tx "meets"))) [.ret (.mk ⟨455,[(Qa "box")]⟩ [(.ix V0 (kI 1))])] [],.ite (.cmp .eq (.ix V0 (kI 0)) (.k (tx "inside"))) [.ret (.mk ⟨495,[(Qa "box")]⟩ [(.ix V0 (kI 1))])] [],.ite (.cmp .eq (.ix V0 (kI 0)) (.k (tx "holds"))) [.ret (.mk ⟨535,[(Qa "box")]⟩ [(.ix V0 (kI 1))])] [],.ite (.cmp .eq (.ix V0 (kI 0)) (.k (tx "near"))) [.ret (.mk ⟨575,[(Qa "box"),(Qa "far")]⟩ [(.ix V0 (kI 1)),(.ix V0 (kI 2))])] [],.ite (.cmp .eq (.ix V0 (kI 0)) (.k (tx "worthy"))) [.ret (.mk ⟨735,[(Qa "least")]⟩ [(.ix V0 (kI 1))])] [],.ite (.cmp .eq (.ix V0 (kI 0)) (.k (tx "crosses"))) [.ret (.mk ⟨695,[(Qa "box"),(Qa "first"),(Qa "last")]⟩ [(.ix V0 (kI 1)),(.ix V0 (kI 2)),(.ix V0 (kI 3))])] [],.ite (.cmp .eq (.ix V0 (kI 0)) (.k (tx "marked"))) [.ret (.mk ⟨615,[(Qa "marks")]⟩ [(.ix V0 (kI 1))])] [],.ite (.cmp .eq (.ix V0 (kI 0)) (.k (tx "touched"))) [.ret (.mk ⟨655,[(Qa "marks")]⟩ [(.ix V0 (kI 1))])] [],.ret (.mk ⟨415,[]⟩ [])]⟩
def f_law_want_of:Fd:=⟨1,1,[.ite (.cmp .eq (.ix V0 (kI 0)) (.k (tx "both"))) [.ret (.mk ⟨775,[(Qa "one"),(Qa "two")]⟩ [(.call 65 [(.ix V0 (kI 1))]),(.call 65 [(.ix V0 (kI 2))])])] [],.ite (.cmp .eq (.ix V0 (kI 0)) (.k (tx "either"))) [.ret (.mk ⟨815,[(Qa "one"),(Qa "two")]⟩ [(.call 65 [(.ix V0 (kI 1))]),(.call 65 [(.ix V0 (kI 2))])])] [],.ite (.cmp .eq (.ix V0 (kI 0)) (.k (tx "unless"))) [.ret (.mk ⟨855,[(Qa "one")]⟩ [(.call 65 [(.ix V0 (kI 1))])])] [],.ret (.call 64 [V0])]⟩
def f_law_atom_suits:Fd:=⟨3,4,[.set 3 false (.call 57 [(.ix V1 (kI 1)),V2]),.ite (.cmp .eq (.ix V0 (kI 0)) (.k (tx "meets"))) [.ret (.call 58 [V3,(.ix V0 (kI 1))])] [],.ite (.cmp .eq (.ix V0 (kI 0)) (.k (tx "inside"))) [.ret (.call 59 [V3,(.ix V0 (kI 1))])] [],.ite (.cmp .eq (.ix V0 (kI 0)) (.k (tx "holds"))) [.ret (.call 59 [(.ix V0 (kI 1)),V3])] [],.ite (.cmp .eq (.ix V0 (kI 0)) (.k (tx "near"))) [.ret (.cmp .le (.call 60 [V3,(.ix V0 (kI 1))]) (.ix V0 (kI 2)))] [],.ite (.cmp .eq (.ix V0 (kI 0)) (.k (tx "worthy"))) [.ret (.cmp .ge (.ix V1 (kI 3)) (.ix V0 (kI 1)))] [],.ite (.cmp .eq (.ix V0 (kI 0)) (.k (tx "crosses"))) [.ret (.bi .any [(.compR (.call 58 [(.call 57 [(.ix V1 (kI 1)),V0]),(.ix V2 (kI 1))]) 1 [1,0] (.one 0) [(.ix V0 (kI 2)),(.bin .add (.ix V0 (kI 3)) (kI 1))])])] [],.ite (.cmp .eq (.ix V0 (kI 0)) (.k (tx "marked"))) [.ret (.cmp .eq (.bin .band (.ix V1 (kI 2)) (.ix V0 (kI 1))) (.ix V0 (kI 1)))] [],.ite (.cmp .eq (.ix V0 (kI 0)) (.k (tx "touched"))) [.ret (.cmp .ne (.bin .band (.ix V1 (kI 2)) (.ix V0 (kI 1))) (kI 0))] [],.ret (.k (.bl true))]⟩
def f_law_suits:Fd:=⟨3,3,[.ite (.cmp .eq (.ix V0 (kI 0)) (.k (tx "both"))) [.ret (.and (.call 67 [(.ix V0 (kI 1)),V1,V2]) (.call 67 [(.ix V0 (kI 2)),V1,V2]))] [],.ite (.cmp .eq (.ix V0 (kI 0)) (.k (tx "either"))) [.ret (.or (.call 67 [(.ix V0 (kI 1)),V1,V2]) (.call 67 [(.ix V0 (kI 2)),V1,V2]))] [],.ite (.cmp .eq (.ix V0 (kI 0)) (.k (tx "unless"))) [.ret (.not (.call 67 [(.ix V0 (kI 1)),V1,V2]))] [],.ret (.call 66 [V0,V1,V2])]⟩
def qEB:Fd:=⟨1,1,[.ret (.and (.isi V0 .int) (.not (.isi V0 .bool)))]⟩
def f_law_numbers:Fd:=⟨1,1,[.ret (.and (.isi V0 .tuple) (.bi .all [(.compS (.call 68 [V0]) 1 [] (.one 0) V0)]))]⟩
def f_law_is_paper:Fd:=⟨1,2,[.ite (.not (.isi V0 .tuple)) [.ret (.k (.bl false))] [],.forS (.one 1) V0 v3,.ret (.k (.bl true))]⟩
def f_law_word_fits:Fd:=⟨3,3,[.ite (.cmp .eq V1 (kI 0)) [.ret (.cmp .eq V0 (.k (tx "shut")))] [],.ite (.cmp .eq V1 (kI 1)) [.ret (.cmp .eq V0 (.ix (.lst [(.k (tx "shut")),(.k (tx "whole"))]) V2))] [],.ite (.cmp .eq V0 (.k (tx "shut"))) [.ret (.cmp .eq V2 (kI 0))] [],.ite (.cmp .eq V0 (.k (tx "whole"))) [.ret (.cmp .eq V2 V1)] [],.ret (.cmp .eq V0 (.k (tx "open")))]⟩
def f_law:Fd:=⟨1,12,[.set 1 false (.call 51 [V0,(kI 0)]),.set 2 false (.call 53 [V1]),.set 3 false (.bin .add (kI 2) (.call 52 [V1,(kI 91),(kI 2)])),.set 4 false (.call 52 [(.call 51 [V0,(kI 1)]),(kI 92),(kI 13)]),.set 5 false (.call 56 [(.compR (.bin .add (.call 51 [V1,(.bin .add (kI 5) V0)]) (.bin .mul (kI 7919) V0)) 1 [0] (.one 0) [V4]),V3,V2]),.set 6 false (.bin .add (kI 1) (.call 52 [V1,(kI 93),(kI 3)])),.set 7 false (.call 63 [(.compR (.bin .add (.call 51 [V1,(.bin .add (kI 2) V0)]) (.bin .mul (kI 31) V0)) 1 [0] (.one 0) [V6]),V3,V2]),.set 8 false (.call 52 [(.call 51 [V0,(kI 1)]),(kI 94),(.ix V2 (kI 2))]),.set 9 false (.call 26 [(.bi .tuple [V5])]),.ite (.cmp .eq (.call 52 [V1,(kI 95),(kI 3)]) (kI 0)) [.set 8 false (kI 0),.set 10 false (.call 35 [V9,(.call 65 [V7]),(kI 0)])] [.set 10 false (.call 35 [V9,(.call 65 [V7]),V8])],.ite (.or (.not (.isi d3 .tuple)) (.cmp .ne (.bi .len [d3]) (kI 2))) [.ret (.k (.bl false))] [],.set 11 false (.compF (.ix V0 (kI 0)) (.call 67 [V2,V0,V1]) 1 [8,7] (.one 0) V5),.ite (.or (.not (.call 69 [(.ix d3 (kI 0))])) (.cmp .ne (.ix d3 (kI 0)) (.bi .tuple [(.bi .sorted [mV])]))) [.ret (.k (.bl false))] [],.ite (.or (.not (.call 70 [(.ix d3 (kI 1))])) (.or (.cmp .ne (.bi .len [(.ix d3 (kI 1))]) (kI 1)) (.cmp .ne (.ix (.ix (.ix d3 (kI 1)) (kI 0)) (kI 0)) (.tup [])))) [.ret (.k (.bl false))] [],.ret (.call 71 [(.ix (.ix (.ix d3 (kI 1)) (kI 0)) (kI 1)),(.bi .len [V5]),(.bi .len [mV])])]⟩
noncomputable def BL:Fd:=⟨3,3,[.ret (.k (.bl true))]⟩
def BW:Fd:=⟨3,3,[.ret (.k (tx "every"))]⟩
def BA:Fd:=⟨3,3,[.ret (.call 39 [(.call 12 [V1,V2]),(.fld V0 0 (Qa "box"))])]⟩
def BJ:Fd:=⟨3,3,[.ret (.call 45 [(.call 39 [(.call 47 [V1,V2]),(.fld V0 0 (Qa "box"))]),(.not (.call 39 [(.call 46 [V1,V2]),(.fld V0 0 (Qa "box"))]))])]⟩
def BR:Fd:=⟨3,3,[.ret (.call 40 [(.call 12 [V1,V2]),(.fld V0 0 (Qa "box"))])]⟩
def BM:Fd:=⟨3,3,[.ret (.call 45 [(.call 40 [(.call 46 [V1,V2]),(.fld V0 0 (Qa "box"))]),(.not (.call 40 [(.call 47 [V1,V2]),(.fld V0 0 (Qa "box"))]))])]⟩
def Bz:Fd:=⟨3,3,[.ret (.call 40 [(.fld V0 0 (Qa "box")),(.call 12 [V1,V2])])]⟩
def BH:Fd:=⟨3,3,[.ret (.call 45 [(.call 40 [(.fld V0 0 (Qa "box")),(.call 47 [V1,V2])]),(.not (.call 40 [(.fld V0 0 (Qa "box")),(.call 46 [V1,V2])]))])]⟩
def BD:Fd:=⟨3,3,[.ret (.cmp .le (.call 41 [(.call 12 [V1,V2]),(.fld V0 0 (Qa "box"))]) (.fld V0 1 (Qa "far")))]⟩
def f_Near_verdict:Fd:=⟨3,5,[.set 3 false (.call 41 [(.call 47 [V1,V2]),(.fld V0 0 (Qa "box"))]),.set 4 false (.call 41 [(.call 46 [V1,V2]),(.fld V0 0 (Qa "box"))]),.ret (.call 45 [(.cmp .le V3 (.fld V0 1 (Qa "far"))),(.cmp .gt V4 (.fld V0 1 (Qa "far")))])]⟩
def BS:Fd:=⟨3,3,[.ret (.call 48 [(.call 10 [V1]),(.fld V0 0 (Qa "marks"))])]⟩
def BN:Fd:=⟨3,3,[.ret (.call 45 [(.call 48 [(.call 16 [V1]),(.fld V0 0 (Qa "marks"))]),(.not (.call 48 [(.call 15 [V1]),(.fld V0 0 (Qa "marks"))]))])]⟩
def BK:Fd:=⟨3,3,[.ret (.call 49 [(.call 10 [V1]),(.fld V0 0 (Qa "marks"))])]⟩
def BQ:Fd:=⟨3,3,[.ret (.call 45 [(.call 49 [(.call 16 [V1]),(.fld V0 0 (Qa "marks"))]),(.not (.call 49 [(.call 15 [V1]),(.fld V0 0 (Qa "marks"))]))])]⟩
def BG:Fd:=⟨3,3,[.ret (.call 50 [(.call 9 [V1]),(.fld V0 0 (Qa "box")),(.fld V0 1 (Qa "first")),(.fld V0 2 (Qa "last"))])]⟩
def f_Crosses_verdict:Fd:=⟨3,5,[.set 3 false (.call 50 [(.call 14 [V1]),(.fld V0 0 (Qa "box")),(.fld V0 1 (Qa "first")),(.fld V0 2 (Qa "last"))]),.set 4 false (.call 50 [(.call 13 [V1]),(.fld V0 0 (Qa "box")),(.fld V0 1 (Qa "first")),(.fld V0 2 (Qa "last"))]),.ret (.call 45 [V3,(.not V4)])]⟩
def BU:Fd:=⟨3,3,[.ret (.cmp .ge (.call 11 [V1]) (.fld V0 0 (Qa "least")))]⟩
def BO:Fd:=⟨3,3,[.ret (.call 45 [(.cmp .ge (.call 17 [V1]) (.fld V0 0 (Qa "least"))),(.cmp .lt (.call 18 [V1]) (.fld V0 0 (Qa "least")))])]⟩
def f_Both_suits:Fd:=⟨3,3,[.ret (.and (.mc (.fld V0 0 (Qa "one")) (Qa "suits") TBs [V1,V2]) (.mc (.fld V0 1 (Qa "two")) (Qa "suits") TBs [V1,V2]))]⟩
def f_Both_verdict:Fd:=⟨3,4,[.set 3 false (.tup [(.mc (.fld V0 0 (Qa "one")) (Qa "verdict") TBv [V1,V2]),(.mc (.fld V0 1 (Qa "two")) (Qa "verdict") TBv [V1,V2])]),.ret (.call 45 [(.cmp .eq V3 (.tup [(.k (tx "every")),(.k (tx "every"))])),(.cmp .isin (.k (tx "none")) V3)])]⟩
def f_Either_suits:Fd:=⟨3,3,[.ret (.or (.mc (.fld V0 0 (Qa "one")) (Qa "suits") TBs [V1,V2]) (.mc (.fld V0 1 (Qa "two")) (Qa "suits") TBs [V1,V2]))]⟩
def f_Either_verdict:Fd:=⟨3,4,[.set 3 false (.tup [(.mc (.fld V0 0 (Qa "one")) (Qa "verdict") TBv [V1,V2]),(.mc (.fld V0 1 (Qa "two")) (Qa "verdict") TBv [V1,V2])]),.ret (.call 45 [(.cmp .isin (.k (tx "every")) V3),(.cmp .eq V3 (.tup [(.k (tx "none")),(.k (tx "none"))]))])]⟩
def f_Unless_suits:Fd:=⟨3,3,[.ret (.not (.mc (.fld V0 0 (Qa "one")) (Qa "suits") TBs [V1,V2]))]⟩
def f_Unless_verdict:Fd:=⟨3,4,[.set 3 false (.mc (.fld V0 0 (Qa "one")) (Qa "verdict") TBv [V1,V2]),.ret (.call 45 [(.cmp .eq V3 (.k (tx "none"))),(.cmp .eq V3 (.k (tx "every")))])]⟩
def xO:Fd:=⟨3,3,[.ret (.call 28 [V2,V0,V1])]⟩
def tab:List Fd:=[yn,f_side_at,f_side_joined,f_side_narrowed,f_still_swath,f_frame_at,f_frames_joined,f_frames_narrowed,BV,qDZ,qD0,qDY,f_thing_box,qEA,qEy,qFd,qEz,qEx,qFe,f_thing_told,f_told_poured,f_tolds_poured,f_is_leaf,f_page_told,f_page_parts,f_things_tolds,f_make_leaf,f_things_in,f_want_word,f_cut_from,f_want_cut,f_paper_of,f_suiting_in,f_things_of_row,f_handles_of,f_all_that,f_sides_meet,f_side_inside,f_side_gap,f_boxes_meet,f_box_inside,f_box_gap,f_beats_of,f_beats_below,f_meeting,f_verdict_from,f_cover_at,f_heart_at,f_has_each,f_has_one,f_crosses_box,f_law_cell_at,f_law_draw,f_law_scale,f_law_side_by,f_law_thing_by,f_law_things_by,f_law_at,f_law_touch,f_law_lies_in,f_law_gap_of,f_law_box_by,f_law_atom_by,f_law_plain_by,f_law_atom_of,f_law_want_of,f_law_atom_suits,f_law_suits,qEB,f_law_numbers,f_law_is_paper,f_law_word_fits,f_law,BL,BW,BA,BJ,BR,BM,Bz,BH,BD,f_Near_verdict,BS,BN,BK,BQ,BG,f_Crosses_verdict,BU,BO,f_Both_suits,f_Both_verdict,f_Either_suits,f_Either_verdict,f_Unless_suits,f_Unless_verdict,xO]
theorem t0:tab[0]?=some yn:=rfl
theorem t1:tab[1]?=some f_side_at:=rfl
theorem t2:tab[2]?=some f_side_joined:=rfl
theorem t3:tab[3]?=some f_side_narrowed:=rfl
theorem t4:tab[4]?=some f_still_swath:=rfl
theorem t5:tab[5]?=some f_frame_at:=rfl
theorem t6:tab[6]?=some f_frames_joined:=rfl
theorem t7:tab[7]?=some f_frames_narrowed:=rfl
theorem t8:tab[8]?=some BV:=rfl
theorem t35:tab[35]?=some f_all_that:=rfl
theorem t72:tab[72]?=some f_law:=rfl
end Dw.T 
namespace Dw
noncomputable abbrev zF (d:D):Option R:=some (false,d)
noncomputable abbrev zT (d:D):Option R:=some (true,d)
abbrev cU:=@List.getElem?_cons_zero
abbrev eI:=@List.getElem?_cons_succ
abbrev cm:=@Option.bind_some
abbrev cT:=@Option.join_some
abbrev cR:=@Option.map_some
abbrev zAf:=@List.set_cons_zero
abbrev zAg:=@List.set_cons_succ
abbrev d4:=@List.length_cons
abbrev bZ:=@List.length_map
abbrev qr:=@Bool.and_false
abbrev f9:=@List.length_nil
abbrev gD:=@List.map_cons
abbrev gC:=@List.length_append
abbrev lj:=@List.take_of_length_le
abbrev zAo:=@Option.map_eq_some_iff
abbrev jM:=@List.map_append
abbrev zAq:=@List.replicate_zero
abbrev lh:=@List.append_nil
abbrev zAs:=@List.cons_append
abbrev ia:=@List.getElem?_map
abbrev nF:=@List.mem_cons_self
abbrev wt:=@Bool.and_true
abbrev wq:=@Int.eq_ofNat_of_zero_le
abbrev nC:=@List.mem_cons_of_mem
abbrev zAz:=@List.map_nil
abbrev zBa:=@List.mem_range
abbrev nB:=@List.getElem?_eq_getElem
abbrev zBd:=@List.all_eq_true
abbrev zBe:=@Int.fmod_eq_emod_of_nonneg
abbrev wm:=@Int.fdiv_eq_ediv_of_nonneg
abbrev nA:=@Int.mul_le_mul_of_nonneg_right
abbrev nz:=@Nat.le_refl
abbrev jL:=@List.mem_of_getElem?
abbrev ff:=@Nat.zero_add
abbrev ny:=@List.append_assoc
abbrev nr:=@List.getD_eq_getElem?_getD
abbrev qp:=@List.mem_append_right
abbrev zBn:=@List.length_singleton
abbrev zBo:=@List.getElem?_eq_some_iff
abbrev qo:=@List.mem_append_left
abbrev nq:=@List.length_range
abbrev lg:=@Bool.and_eq_true
abbrev zBu:=@List.mem_singleton
abbrev zBv:=@List.mem_append
abbrev qk:=@List.take_append_drop
abbrev hX:=@Int.le_refl
abbrev nk:=@Int.toNat_of_nonneg
abbrev zCb:=@List.mem_cons
abbrev iU:=@List.map_map
abbrev wj:=@List.length_filter_le
abbrev zCe:=@Nat.pow_le_pow_right
abbrev qg:=@Nat.eq_of_testBit_eq
abbrev wg:=@Bool.eq_iff_iff
abbrev ni:=@Bool.false_ne_true
abbrev we:=@Nat.zero_le
theorem bH {n:Nat}(h:n<=16777216):n<=lim:=h
theorem yx {n:Nat}(h:n<16777216):n<lim:=h
theorem qT4:(1<=lim)=True:=eq_true (bH (by decide))
theorem wY:(2<=lim)=True:=eq_true (bH (by decide))
theorem qT3:(4<=lim)=True:=eq_true (bH (by decide))
def fE:=d9
def eM:=eL
def bL:=k3
def aM:=tZ
def wD:=qX
def fY:=iP
def oz:=iq
def B3:=kZ
def wZ:=rC
def gM:=dW
def iE:=bw
def ox:=fk
def qOF:=kG
def rvP:=gG
def rl:=gK
section
variable (a b:Int) (x y z:D) (xs ys:List D)
@[simp] theorem kP:fE .add (.int a) (.int b)=some (false,.int (a+b)):=rfl
@[simp] theorem tI:fE .sub (.int a) (.int b)=some (false,.int (a - b)):=rfl
@[simp] theorem lR:fE .mul (.int a) (.int b)=if cZ a b then some (false,.int (a * b)) else none:=rfl
@[simp] theorem qQz:fE .fdiv (.int a) (.int b)=if fG b then some (false,.int (a.fdiv b)) else none:=rfl
@[simp] theorem qKx:fE .mod (.int a) (.int b)=if fG b then some (false,.int (a.fmod b)) else none:=rfl
@[simp] theorem lS:fE .pow (.int a) (.int b)=if fR a b then some (false,.int (a^b.toNat)) else none:=rfl
@[simp] theorem qI2:fE .band (.int a) (.int b)=if 0<=a/\0<=b then some (false,.int ((a.toNat &&& b.toNat:Nat):Int)) else none:=rfl
@[simp] theorem qKy:fE .bor (.int a) (.int b)=if 0<=a/\0<=b then some (false,.int ((a.toNat ||| b.toNat:Nat):Int)) else none:=rfl
@[simp] theorem qSz:eM .eq x y=if (bO 20 x||bO 20 y)&&(bF x&&bF y) then some (false,.bl (aW x y)) else none:=rfl
@[simp] theorem zm:eM .ne x y=if (bO 20 x||bO 20 y)&&(bF x&&bF y) then some (false,.bl (!aW x y)) else (oh x y).map λe=>(false,.bl (!e)):=rfl
@[simp] theorem lX:eM .eq (.int a) (.int b)=some (false,.bl (aW (.int a) (.int b))):=rfl
@[simp] theorem qRa:eM .ne (.int a) (.int b)=some (false,.bl (!aW (.int a) (.int b))):=rfl
@[simp] theorem lQ:eM .lt (.int a) (.int b)=some (false,.bl (decide (a<b))):=rfl
@[simp] theorem qSw:eM .le (.int a) (.int b)=some (false,.bl (decide (a<=b))):=rfl
@[simp] theorem qSx:eM .gt (.int a) (.int b)=some (false,.bl (decide (b<a))):=rfl
@[simp] theorem qSy:eM .ge (.int a) (.int b)=some (false,.bl (decide (b<=a))):=rfl
theorem qPY (i j:Int):(if j<i then j else i)=min i j:=by omega
theorem rX (i j:Int):(if i<j then j else i)=max i j:=by omega
@[simp] theorem tH:bL .len [.tup xs]=some (false,.int xs.length):=rfl
@[simp] theorem Ab:bL .len [.lst xs]=some (false,.int xs.length):=rfl
@[simp] theorem qSH:bL .min [.int a,.int b]=some (false,.int (min a b)):=by rw [<-qPY];rfl
@[simp] theorem qSI:bL .max [.int a,.int b]=some (false,.int (max a b)):=by rw [<-rX];rfl
@[simp] theorem qKA (c:Int):bL .max [.int a,.int b,.int c]=some (false,.int (max (max a b) c)):=by rw [<-rX,<-rX];rfl
@[simp] theorem qNQ:bL .sum [.lst xs]=(fx xs).map λis=>(false,.int is.sum):=rfl
@[simp] theorem qNR:bL .all [.lst xs]=(gu xs).map λbs=>(false,.bl (bs.all id)):=rfl
@[simp] theorem qRc:bL .tuple [.lst xs]=some (false,.tup xs):=rfl
@[simp] theorem qRd:bL .list [.lst xs]=some (true,.lst xs):=rfl
@[simp] theorem oM:aM (.lst xs) (.int a)=(fY xs a).map (false,·):=rfl
@[simp] theorem qSf:aM (.tup xs) (.int a)=(fY xs a).map (false,·):=rfl
@[simp] theorem qSe:fY (x::xs) 0=some x:=by simp [fY]
@[simp] theorem qT6:fY (x::y::xs) 1=some y:=by
 simp only [fY,iP,ixN,fC];rw [Ql (by omega),Ql (by omega)];rfl
theorem qNn (j:Nat):fY xs (j:Int)=xs[j]?:=by
 simp only [fY,iP,ixN];rw [Ql (by omega)]
 by_cases h:j<xs.length
 ·rw [Ql (by omega)];simp
 ·rw [Qm (by omega)];simp;omega
@[simp] theorem qTO (l h):wD l h (.lst xs)=some (true,.lst (oz xs l h)):=rfl
@[simp] theorem qQW:wZ (.int a)=some (false,.int (-a)):=rfl
@[simp] theorem qOM:gM [.int a]=if -(2^62)<=a/\a<2^62 then some ((List.range a.toNat).map λi=>.int (i:Nat)) else none:=rfl
@[simp] theorem Bw:bL .sorted [.lst xs]=(fx xs).bind λis=>if is.length<64 then some (true,.lst ((cI is).map .int)) else none:=rfl
theorem rW (n:Nat) (h:n<=10000):gM [.int n]=some ((List.range n).map λi=>.int (i:Nat)):=by
 rw [qOM,Ql (by omega)];simp
end
section
variable (call:Nat->List D->Option R) (Z:En)
@[simp 5000] theorem rq (i):aa call Z (.v i)=ji (ar Z i):=rfl
@[simp 5000] theorem dQ (d):aa call Z (.k d)=some (false,d):=rfl
@[simp 5000] theorem gU (o a b):aa call Z (.bin o a b)=match pk Z a (aa call Z a) with
 | none=>none|some x=>match pk Z b (aa call Z b) with|none=>none|some y=>fE o x y:=by
 rw [yV];cases pk Z a (aa call Z a)<;>first|rfl|(cases pk Z b (aa call Z b)<;>rfl)
@[simp 5000] theorem qSR (a):aa call Z (.neg a)=match pk Z a (aa call Z a) with|none=>none|some x=>wZ x:=by
 rw [qNx];cases pk Z a (aa call Z a)<;>rfl
@[simp 5000] theorem fT (o a b):aa call Z (.cmp o a b)=match pk Z a (aa call Z a) with
 | none=>none|some x=>match pk Z b (aa call Z b) with|none=>none|some y=>eM o x y:=by
 rw [sx];cases pk Z a (aa call Z a)<;>first|rfl|(cases pk Z b (aa call Z b)<;>rfl)
@[simp 5000] theorem qSS (n a d):aa call Z (.isC n a d)=match pk Z a (aa call Z a) with|none=>none|some x=>B3 n x d:=by
 rw [qNz];cases pk Z a (aa call Z a)<;>rfl
@[simp 5000] theorem r0 (a b):aa call Z (.and a b)=match aa call Z a with
 | none=>none|some (_,.bl c)=>(if c=true then aa call Z b else some (false,.bl false))|some _=>none:=by
 rw [qNB];rcases aa call Z a with _|⟨x,d⟩<;>first|rfl|(cases d<;>first|rfl|(rename_i c;cases c<;>rfl))
@[simp 5000] theorem qRm (a b):aa call Z (.or a b)=match aa call Z a with
 | none=>none|some (_,.bl c)=>(if c=true then some (false,.bl true) else aa call Z b)|some _=>none:=by
 rw [qQa];rcases aa call Z a with _|⟨x,d⟩<;>first|rfl|(cases d<;>first|rfl|(rename_i c;cases c<;>rfl))
@[simp 5000] theorem yJ (a):aa call Z (.not a)=match aa call Z a with
 | none=>none|some (_,.bl c)=>some (false,.bl (!c))|some _=>none:=by
 rw [qNw];rcases aa call Z a with _|⟨x,d⟩<;>first|rfl|(cases d<;>rfl)
@[simp 5000] theorem gv (a b):aa call Z (.ix a b)=match pk Z a (aa call Z a) with
 | none=>none|some x=>match pk Z b (aa call Z b) with|none=>none|some y=>aM x y:=by
 rw [yj];cases pk Z a (aa call Z a)<;>first|rfl|(cases pk Z b (aa call Z b)<;>rfl)
@[simp 5000] theorem qTp (a lo hi):aa call Z (.sl a lo hi)=match pk Z a (aa call Z a) with
 | none=>none|some x=>match fK call Z lo with|none=>none|some l=>match fK call Z hi with|none=>none|some h=>wD l h x:=by
 rw [qP9];cases pk Z a (aa call Z a)<;>first|rfl|(cases fK call Z lo<;>first|rfl|(cases fK call Z hi<;>rfl))
@[simp 5000] theorem fU (as):aa call Z (.tup as)=match bh call Z as with|none=>none|some xs=>if xs.length<=lim then some (false,.tup xs) else none:=by
 rw [yY];cases bh call Z as<;>rfl
@[simp 5000] theorem oZ (as):aa call Z (.lst as)=match bh call Z as with|none=>none|some xs=>if xs.length<=lim then some (true,.lst xs) else none:=by
 rw [qNy];cases bh call Z as<;>rfl
@[simp 5000] theorem jB (f as):aa call Z (.call f as)=match dU call Z as with|none=>none|some xs=>call f xs:=by
 rw [lZ];cases dU call Z as<;>rfl
@[simp 5000] theorem oS (b as):aa call Z (.bi b as)=match bu call Z as with|none=>none|some xs=>bL b xs:=by
 rw [qQd];cases bu call Z as<;>rfl
@[simp 5000] theorem qST (c a b):aa call Z (.ifx c a b)=match aa call Z c with
 | none=>none|some (_,.bl t)=>(if t=true then aa call Z a else aa call Z b)|some _=>none:=by
 rw [qNA];rcases aa call Z c with _|⟨x,d⟩<;>first|rfl|(cases d<;>first|rfl|(rename_i c;cases c<;>rfl))
@[simp 5000] theorem qJj (e nl ks tg rs):aa call Z (.compR e nl ks tg rs)=match bu call Z rs with
 | none=>none|some x=>match gM x with|none=>none|some its=>if its.length<=lim then (match cG call e (a9 Z nl ks) tg its with|none=>none|some ys=>some (true,.lst ys)) else none:=by
 rw [qIr]
 cases bu call Z rs with
 | none=>rfl
 | some x => show (dW x).bind _ = match dW x with | none => none | some its => _
             cases dW x with
             | none=>rfl
             | some its => show (if its.length <= lim then (cG call e (a9 Z nl ks) tg its).bind _ else none) = if its.length <= lim then (match cG call e (a9 Z nl ks) tg its with | none => none | some ys => _) else none
                           cases cG call e (a9 Z nl ks) tg its<;>rfl
@[simp 5000] theorem qJi (e nl ks tg a b):aa call Z (.compZ e nl ks tg a b)=match aa call Z a with
 | none=>none|some x=>match aa call Z b with|none=>none|some y=>match iE x.2 with|none=>none|some xs=>match ox y.2 with|none=>none|some ys=>match cG call e (a9 Z nl ks) tg (bS xs ys) with|none=>none|some zs=>some (true,.lst zs):=by
 rw [qIq]
 cases aa call Z a with
 | none=>rfl
 | some x =>
  cases aa call Z b with
  | none=>rfl
  | some y =>
   show (bw x.2).bind _=match bw x.2 with|none=>none|some its=>_
   cases bw x.2 with
   | none=>rfl
   | some xs =>
    show (fk y.2).bind _=match fk y.2 with|none=>none|some its=>_
    cases fk y.2 with
    | none=>rfl
    | some ys =>
     show (cG call e (a9 Z nl ks) tg (bS xs ys)).bind _=match cG call e (a9 Z nl ks) tg (bS xs ys) with|none=>none|some ys=>_
     cases cG call e (a9 Z nl ks) tg (bS xs ys)<;>rfl
@[simp 5000] theorem qSU (a j f):aa call Z (.fld a j f)=match aa call Z a with|none=>none|some r=>cg j f r.2:=by
 rw [yW];cases aa call Z a<;>rfl
@[simp 5000] theorem qTq (kn as):aa call Z (.mk kn as)=match bh call Z as with|none=>none|some xs=>if xs.length=kn.ns.length then some (false,.obj kn xs) else none:=by
 rw [ym];cases bh call Z as<;>rfl
@[simp 5000] theorem eC (a r):bh call Z (a::r)=match aa call Z a with|none=>none|some x=>match bh call Z r with|none=>none|some xs=>some (x.2::xs):=by
 rw [kR];cases aa call Z a<;>first|rfl|(cases bh call Z r<;>rfl)
theorem wU {a:C}{m:PySem.Str}{tb:List (Nat×Nat)}{bs:List C}{b:Bool}{kn:Kn}{os ys:List D}{f:Nat}{r:R}(ho:aa call Z a=some (b,.obj kn os)) (hm:kn.ns.all (λf=>f != m)=true) (ht:tb.lookup kn.c=some f) (hb:bh call Z bs=some ys) (hc:call f (.obj kn os::ys)=some r):aa call Z (.mc a m tb bs)=some r:=by
 rw [yk,ho,dE]
 simp only [tY,hm,if_true]
 rw [ht,dE,hb,dE,hc]
@[simp 5000] theorem jC (a r):dU call Z (a::r)=match ag Z a (aa call Z a) with|none=>none|some x=>match dU call Z r with|none=>none|some xs=>some (x::xs):=by
 rw [jt];cases ag Z a (aa call Z a)<;>first|rfl|(cases dU call Z r<;>rfl)
@[simp 5000] theorem pP (a r):bu call Z (a::r)=match pk Z a (aa call Z a) with|none=>none|some x=>match bu call Z r with|none=>none|some xs=>some (x::xs):=by
 rw [qIv];cases pk Z a (aa call Z a)<;>first|rfl|(cases bu call Z r<;>rfl)
@[simp 5000] theorem qRk (c):fK call Z (some c)=match pk Z c (aa call Z c) with|none=>none|some x=>rD x:=by
 rw [qKk];cases pk Z c (aa call Z c)<;>rfl
variable (rest:List S)
@[simp 5000] theorem qSQ (is):af call Z (.frz is::rest)=af call (is.foldl frz1 Z) rest:=rfl
@[simp 5000] theorem qN5 (i keep e):af call Z (.set i keep e::rest)=match aa call Z e with|none=>none|some r=>af call (Z.set i (some (jh keep r))) rest:=by
 rw [dY,zb];cases aa call Z e<;>rfl
@[simp 5000] theorem qQM (i k e):af call Z (.setIx i k e::rest)=match aa call Z e with|none=>none|some x=>match pk Z k (aa call Z k) with|none=>none|some n=>match qOF Z i n x.2 with|some (.nx Z')=>af call Z' rest|some (.rt r)=>some (.rt r)|some (.bk q)=>some (.bk q)|some (.ct q)=>some (.ct q)|none=>none:=by
 rw [dY,qIj]
 cases aa call Z e with
 | none=>rfl
 | some x =>
  cases pk Z k (aa call Z k) with
  | none=>rfl
  | some n =>
   show (kG Z i n x.2).bind _=match kG Z i n x.2 with|some (.nx Z')=>_|some (.rt r)=>_|some (.bk q)=>_|some (.ct q)=>_|none=>_
   rcases kG Z i n x.2 with _|(_|_|_|_)<;>rfl
@[simp 5000] theorem qN7 (i e):af call Z (.app i e::rest)=match aa call Z e with|none=>none|some x=>match rl Z i x.2 with|some (.nx Z')=>af call Z' rest|some (.rt r)=>some (.rt r)|some (.bk q)=>some (.bk q)|some (.ct q)=>some (.ct q)|none=>none:=by
 rw [dY,yZ]
 cases aa call Z e with
 | none=>rfl
 | some x =>
  show (gK Z i x.2).bind _=match gK Z i x.2 with|some (.nx Z')=>_|some (.rt r)=>_|some (.bk q)=>_|some (.ct q)=>_|none=>_
  rcases gK Z i x.2 with _|(_|_|_|_)<;>rfl
@[simp 5000] theorem qN6 (e):af call Z (.ret e::rest)=match fO Z e (aa call Z e) with|none=>none|some r=>some (.rt r):=by
 rw [dY,mi];cases fO Z e (aa call Z e)<;>rfl
@[simp 5000] theorem rY (c a b):af call Z (.ite c a b::rest)=match aa call Z c with
 | none=>none
 | some (_,.bl t)=>if t=true then (match af call Z a with|some (.nx Z')=>af call Z' rest|some (.rt r)=>some (.rt r)|some (.bk q)=>some (.bk q)|some (.ct q)=>some (.ct q)|none=>none)
   else (match af call Z b with|some (.nx Z')=>af call Z' rest|some (.rt r)=>some (.rt r)|some (.bk q)=>some (.bk q)|some (.ct q)=>some (.ct q)|none=>none)
 | some _=>none:=by
 rw [dY,za]
 rcases aa call Z c with _|⟨x,d⟩
 ·rfl
 ·cases d with
  | bl t =>
   cases t with
   | true => show (af call Z a).bind _ = match af call Z a with | some (.nx Z') => _ | some (.rt r) => _ | some (.bk q) => _ | some (.ct q) => _ | none => _
             rcases af call Z a with _|(_|_|_|_)<;>rfl
   | false => show (af call Z b).bind _ = match af call Z b with | some (.nx Z') => _ | some (.rt r) => _ | some (.bk q) => _ | some (.ct q) => _ | none => _
              rcases af call Z b with _|(_|_|_|_)<;>rfl
  | _=>rfl
@[simp 5000] theorem qLI (tg src body):af call Z (.forS tg src body::rest)=match aa call Z src with|none=>none|some x=>match iE x.2 with|none=>none|some its=>match bE call body tg its Z with|some (.nx Z')=>af call Z' rest|some (.rt r)=>some (.rt r)|some (.bk q)=>some (.bk q)|some (.ct q)=>some (.ct q)|none=>none:=by
 rw [dY,A2]
 cases aa call Z src with
 | none=>rfl
 | some x =>
  show ((bw x.2).bind _).bind _=match bw x.2 with|none=>none|some its=>_
  cases bw x.2 with
  | none=>rfl
  | some its =>
   show (bE call body tg its Z).bind _=match bE call body tg its Z with|some (.nx Z')=>_|some (.rt r)=>_|some (.bk q)=>_|some (.ct q)=>_|none=>_
   rcases bE call body tg its Z with _|(_|_|_|_)<;>rfl
@[simp 5000] theorem Ap (tg rs body):af call Z (.forR tg rs body::rest)=match bu call Z rs with|none=>none|some x=>match gM x with|none=>none|some its=>match bE call body tg its Z with|some (.nx Z')=>af call Z' rest|some (.rt r)=>some (.rt r)|some (.bk q)=>some (.bk q)|some (.ct q)=>some (.ct q)|none=>none:=by
 rw [dY,A1]
 cases bu call Z rs with
 | none=>rfl
 | some x =>
  show ((dW x).bind _).bind _=match dW x with|none=>none|some its=>_
  cases dW x with
  | none=>rfl
  | some its =>
   show (bE call body tg its Z).bind _=match bE call body tg its Z with|some (.nx Z')=>_|some (.rt r)=>_|some (.bk q)=>_|some (.ct q)=>_|none=>_
   rcases bE call body tg its Z with _|(_|_|_|_)<;>rfl
@[simp 5000] theorem qRj (tg rs body):af call Z (.forV tg rs body::rest)=match bu call Z rs with|none=>none|some x=>match rvP x with|none=>none|some its=>match bE call body tg its Z with|some (.nx Z')=>af call Z' rest|some (.rt r)=>some (.rt r)|some (.bk q)=>some (.bk q)|some (.ct q)=>some (.ct q)|none=>none:=by
 rw [dY,A3]
 cases bu call Z rs with
 | none=>rfl
 | some x =>
  show ((gG x).bind _).bind _=match gG x with|none=>none|some its=>_
  cases gG x with
  | none=>rfl
  | some its =>
   show (bE call body tg its Z).bind _=match bE call body tg its Z with|some (.nx Z')=>_|some (.rt r)=>_|some (.bk q)=>_|some (.ct q)=>_|none=>_
   rcases bE call body tg its Z with _|(_|_|_|_)<;>rfl
@[simp 5000] theorem qLH (tg a b body):af call Z (.forZ tg a b body::rest)=match aa call Z a with|none=>none|some x=>match aa call Z b with|none=>none|some y=>match iE x.2 with|none=>none|some xs=>match ox y.2 with|none=>none|some ys=>match bE call body tg (bS xs ys) Z with|some (.nx Z')=>af call Z' rest|some (.rt r)=>some (.rt r)|some (.bk q)=>some (.bk q)|some (.ct q)=>some (.ct q)|none=>none:=by
 rw [dY,A4]
 cases aa call Z a with
 | none=>rfl
 | some x =>
  cases aa call Z b with
  | none=>rfl
  | some y =>
   show ((bw x.2).bind _).bind _=match bw x.2 with|none=>none|some its=>_
   cases bw x.2 with
   | none=>rfl
   | some xs =>
    show ((fk y.2).bind _).bind _=match fk y.2 with|none=>none|some its=>_
    cases fk y.2 with
    | none=>rfl
    | some ys =>
     show (bE call body tg (bS xs ys) Z).bind _=match bE call body tg (bS xs ys) Z with|some (.nx Z')=>_|some (.rt r)=>_|some (.bk q)=>_|some (.ct q)=>_|none=>_
     rcases bE call body tg (bS xs ys) Z with _|(_|_|_|_)<;>rfl
theorem qKD {Z:En}{i:Nat}{xs:List D}{e:D}(h:ar Z i=some (true,.lst xs)) (hl:xs.length<lim):rl Z i e=some (.nx (Z.set i (some (true,.lst (xs++[e]))))):=by
 show gK Z i e=_
 unfold gK;rw [h];simp only;rw [Ql hl]
section
variable {call:Nat->List D->Option R}{Z:En}{rest:List S}{z:Option Ou}
theorem aF {i:Nat}{keep:Bool}{e:C}(r:R) (h:aa call Z e=some r) (k:af call (Z.set i (some (jh keep r))) rest=z):af call Z (.set i keep e::rest)=z:=by
 rw [qN5,h];exact k
theorem yC {i:Nat}{e:C}{xs:List D}(r:R) (h:aa call Z e=some r) (ho:ar Z i=some (true,.lst xs)) (hl:xs.length<lim) (k:af call (Z.set i (some (true,.lst (xs++[r.2])))) rest=z):af call Z (.app i e::rest)=z:=by
 rw [qN7,h];show (match rl Z i r.2 with|some (.nx Z')=>af call Z' rest|some (.rt r)=>some (.rt r)|some (.bk q)=>some (.bk q)|some (.ct q)=>some (.ct q)|none=>none)=z
 rw [qKD ho hl];exact k
theorem iy {c:C}{a b:List S}{x:Bool}{Z':En}(h:aa call Z c=some (x,.bl true)) (ha:af call Z a=some (.nx Z')) (k:af call Z' rest=z):af call Z (.ite c a b::rest)=z:=by
 rw [rY,h];simp only [if_true];rw [ha];exact k
theorem lK {c:C}{a b:List S}{x:Bool}{Z':En}(h:aa call Z c=some (x,.bl false)) (ha:af call Z b=some (.nx Z')) (k:af call Z' rest=z):af call Z (.ite c a b::rest)=z:=by
 rw [rY,h];simp only [ly,if_false];rw [ha];exact k
theorem aq {c:C}{a:List S}{x:Bool}(h:aa call Z c=some (x,.bl false)) (k:af call Z rest=z):af call Z (.ite c a []::rest)=z:=lK h rfl k
theorem aV {c:C}{a b:List S}{x:Bool}{r:R}(h:aa call Z c=some (x,.bl true)) (ha:af call Z a=some (.rt r)) (k:some (.rt r)=z):af call Z (.ite c a b::rest)=z:=by
 rw [rY,h];simp only [if_true];rw [ha];exact k
theorem sI {tg:Tg}{rs:List C}{body:List S}{ds its:List D}{Z':En}(h:bu call Z rs=some ds) (hr:gM ds=some its) (hf:bE call body tg its Z=some (.nx Z')) (k:af call Z' rest=z):af call Z (.forR tg rs body::rest)=z:=by
 rw [Ap,h];simp only;rw [hr];simp only;rw [hf];exact k
theorem yD {i:Nat}{e:C}{xs ys:List D}(h:aa call Z e=some (true,.lst ys)) (ho:ar Z i=some (true,.lst xs)) (hl:xs.length+ys.length<=lim) (k:af call (Z.set i (some (true,.lst (xs++ys)))) rest=z):af call Z (.ext i e::rest)=z:=by
 rw [dY,sy,h]
 simp only [dE,oB]
 rw [ho]
 simp only
 rw [Ql hl]
 exact k
theorem kM {tg:Tg}{src:C}{body:List S}{r:R}{its:List D}{Z':En}(h:aa call Z src=some r) (hr:iE r.2=some its) (hf:bE call body tg its Z=some (.nx Z')) (k:af call Z' rest=z):af call Z (.forS tg src body::rest)=z:=by
 rw [qLI,h];simp only;rw [hr];simp only;rw [hf];exact k
theorem ah {e:C}{r:R}(h:fO Z e (aa call Z e)=some r) (k:some (.rt r)=z):af call Z (.ret e::rest)=z:=by
 rw [qN6,h];exact k
theorem pI {e:C}{nl:Nat}{ks:List Nat}{tg:Tg}{rs:List C}{ds its ys:List D}{Z':En}(h:bu call Z rs=some ds) (hr:gM ds=some its) (hl:its.length<=lim) (hc:a9 Z nl ks=Z') (hf:cG call e Z' tg its=some ys):aa call Z (.compR e nl ks tg rs)=some (true,.lst ys):=by
 subst hc
 rw [qJj,h];simp only;rw [hr];simp only;rw [Ql hl,hf]
theorem qRS {c:C}{r:R}(h:aa call Z c=some r):pk Z c (aa call Z c)=some r.2:=by
 cases c with
 | v i =>
  rw [xM] at h
  show (ar Z i).bind de=_
  cases hg:ar Z i with
  | none=>rw [hg] at h;cases h
  | some q =>
   rw [hg] at h
   obtain⟨b,d⟩:=q
   cases b with
   | false=>cases h;rfl
   | true=>cases h
 | _=>rw [h];rfl
theorem qNE {e:C}{nl:Nat}{ks:List Nat}{tg:Tg}{i:Nat}{its ys:List D}{Z':En}(h:ar Z i=some (true,.lst its)) (hc:a9 Z nl ks=Z') (hf:cG call e Z' tg its=some ys):aa call Z (.compS e nl ks tg (.v i))=some (true,.lst ys):=by
 subst hc
 rw [Br]
 show ((ar Z i).bind de).bind _=_
 rw [h]
 show (cG call e (a9 Z nl ks) tg its).bind _=_
 rw [hf]
 rfl
theorem gP {e:C}{nl:Nat}{ks:List Nat}{tg:Tg}{src:C}{r:R}{its ys:List D}{Z':En}(h:aa call Z src=some r) (hr:iE r.2=some its) (hc:a9 Z nl ks=Z') (hf:cG call e Z' tg its=some ys):aa call Z (.compS e nl ks tg src)=some (true,.lst ys):=by
 subst hc
 rw [Br,qRS h,dE,show bw r.2=some its from hr,dE,hf]
 rfl
end
theorem qTo (fd:Fd) (as:List D) (h:as.length=fd.np):iD call fd as=match af call (aO false as++List.replicate (fd.ns - fd.np) none) fd.body with|some (.nx _)=>some (false,.non)|some (.rt r)=>some r|some (.bk _)=>none|some (.ct _)=>none|none=>none:=by
 unfold iD;rw [Ql h]
 rcases af call (aO false as++List.replicate (fd.ns - fd.np) none) fd.body with _|(_|_|_|_)<;>rfl
end
theorem qIT {tab:List Fd}{f:Nat}{fd:Fd}(h:tab[f]?=some fd) (n:Nat) (as:List D) (hl:as.length=fd.np):aC tab (n+1) f as =
  match af (aC tab n) (aO false as++List.replicate (fd.ns - fd.np) none) fd.body with|some (.nx _)=>some (false,.non)|some (.rt r)=>some r|some (.bk _)=>none|some (.ct _)=>none|none=>none:=by
 rw [lW h,qTo _ _ _ hl]
theorem ao {tab:List Fd}{f:Nat}{fd:Fd}{as:List D}{n:Nat}{r:R}{Z:En}(h:tab[f]?=some fd) (hl:as.length=fd.np) (hZ:aO false as++List.replicate (fd.ns - fd.np) none=Z) (hb:af (aC tab n) Z fd.body=some (.rt r)):aC tab (n+1) f as=some r:=by
 subst hZ
 rw [qIT h n as hl,hb]
end Dw
namespace Dw.T
open Dw
section
variable {call:Nat->List D->Option R}{body:List S}{tg:Tg}
theorem gZ (I:Nat->En->Prop):∀(its:List D) (a:Nat) (Z:En),I a Z ->
  (∀(k:Nat) (d:D) (Z:En),its[k]?=some d->I (a+k) Z->∃Z1 Z2,cF Z tg d=some Z1/\af call Z1 body=some (.nx Z2)/\I (a+k+1) Z2) ->
  ∃Z',bE call body tg its Z=some (.nx Z')/\I (a+its.length) Z'
 | [],a,Z,h,_=>⟨Z,rfl,by simpa using h⟩
 | d::r,a,Z,h,st=>by
  obtain⟨Z1,Z2,h1,h2,h3⟩:=st 0 d Z rfl (by simpa using h)
  obtain⟨Z',e,h'⟩:=gZ I r (a+1) Z2 (by simpa using h3) λk d Z hk hi=>by
   have:=st (k+1) d Z (by simpa using hk) (by rw [show a+(k+1)=a+1+k by omega];exact hi)
   rw [show a+(k+1)+1=a+1+k+1 by omega] at this
   exact this
  refine⟨Z',?_,?_⟩
  ·rw [mj,h1];simp [h2,e]
  ·rw [show a+(d::r).length=a+1+r.length by simp;omega];exact h'
theorem tR (I:Nat->En->Prop) (m:Nat) (f:Nat->D) (Z:En) (h:I 0 Z)
  (st:∀(k:Nat) (Z:En),k<m->I k Z->∃Z1 Z2,cF Z tg (f k)=some Z1/\af call Z1 body=some (.nx Z2)/\I (k+1) Z2) :
  ∃Z',bE call body tg ((List.range m).map f) Z=some (.nx Z')/\I m Z':=by
 obtain⟨Z',e,h'⟩:=gZ (call:=call) (body:=body) (tg:=tg) I ((List.range m).map f) 0 Z h λk d Z hk hi=>by
  rw [ia] at hk
  cases q:(List.range m)[k]? with
  | none=>rw [q] at hk;cases hk
  | some j =>
   rw [q] at hk
   obtain⟨hl,ej⟩:=zBo.mp q
   simp at hl ej
   subst ej
   cases hk
   simpa using st k Z hl (by simpa using hi)
 exact⟨Z',e,by simpa using h'⟩
theorem Bs {α:Type}(p:α->Bool) (r:R) (enc:α->D) (I:En->Prop):∀(l:List α) (Z:En),I Z ->
  (∀x∈l,∀Z,I Z->∃Z1,cF Z tg (enc x)=some Z1/\((p x=true->af call Z1 body=some (.rt r))/\(p x=false->∃Z2,af call Z1 body=some (.nx Z2)/\I Z2))) ->
  (l.any p=true->bE call body tg (l.map enc) Z=some (.rt r))/\(l.any p=false->∃Z',bE call body tg (l.map enc) Z=some (.nx Z')/\I Z')
 | [],Z,h,_=>⟨λz=>by simp at z,λ_=>⟨Z,rfl,h⟩⟩
 | x::l,Z,h,st=>by
  obtain⟨Z1,h1,h2,h3⟩:=st x nF Z h
  cases hp:p x with
  | true=>exact⟨λ_=>by rw [gD,mj,h1];simp [h2 hp],λz=>by simp [hp] at z⟩
  | false =>
   obtain⟨Z2,h4,h5⟩:=h3 hp
   obtain⟨i1,i2⟩:=Bs p r enc I l Z2 h5 λy hy=>st y (nC _ hy)
   constructor
   ·intro z
    simp [hp] at z
    rw [gD,mj,h1]
    simp [h4]
    exact i1 (by simpa using z)
   ·intro z
    simp [hp] at z
    obtain⟨Z',e,h'⟩:=i2 (by simpa using z)
    exact⟨Z',by rw [gD,mj,h1];simp [h4,e],h'⟩
end
noncomputable def bx (m:Nat) (f:Nat->D):List D:=(List.range m).map f
@[simp] theorem sR (m f):(bx m f).length=m:=by simp [bx]
theorem qQo {m:Nat}(f:Nat->D) {j:Nat}(h:j<m):(bx m f)[j]?=some (f j):=by simp [bx,h]
theorem qPR {m:Nat}(f:Nat->D) {j:Nat}(h:j<m):fY (bx m f) (j:Int)=some (f j):=by
 rw [qNn,qQo f h]
theorem o7 (m:Nat) (f g:Nat->D):bS (bx m f) (bx m g)=(List.range m).map λj=>.tup [f j,g j]:=by
 unfold bx
 generalize List.range m=l
 induction l with
 | nil=>rfl
 | cons x r ih=>simp only [gD,bS,List.zipWith_cons_cons] at ih ⊢;rw [ih]
noncomputable def bD (ns:List Int) (k:Nat):Int:=(ns[k]?).getD 0
abbrev P2:=Int×Int
noncomputable def bC (p:P2):D:=.tup [.int p.1,.int p.2]
def ak (m:Nat) (f:Nat->P2):D:=.tup (bx m λj=>bC (f j))
theorem tJ {call:Nat->List D->Option R}{e:C}{m:Nat}{F G:Nat->D}(g:Nat->D)
  (h:∀j,j<m->∃b,aa call [some (false,F j),some (false,G j)] e=some (b,g j)) :
  cG call e [none,none] (.two 0 1) (bS (bx m F) (bx m G))=some (bx m g):=by
 rw [o7]
 exact eN call [none,none] (e:=e) (tg:=.two 0 1) (λj=>.tup [F j,G j]) g (List.range m) λj hj=>by
  obtain⟨b,hb⟩:=h j (zBa.mp hj)
  exact⟨_,b,rfl,hb⟩
theorem gw (p:P2):aM (bC p) (.int 0)=some (false,.int p.1):=rfl
theorem gy (p:P2):aM (bC p) (.int 1)=some (false,.int p.2):=rfl
theorem kK {m j:Nat}(f:Nat->P2) (h:j<m):aM (ak m f) (.int (j:Int))=some (false,bC (f j)):=by
 rw [ak,qSf,qPR _ h];rfl
theorem pO (m:Nat) (f:Nat->P2):iE (ak m f)=some (bx m λj=>bC (f j)):=rfl
theorem pL {call:Nat->List D->Option R}{e:C}{m:Nat}{r:List (Option R)}(f g:Nat->D) (h:∀j:Nat,j<m->∃b,aa call (some (false,f j)::r) e=some (b,g j)) :
  cG call e (none::r) (.one 0) (bx m f)=some (bx m g):=
 eN call (none::r) (e:=e) (tg:=.one 0) f g (List.range m) λj hj=>by
  obtain⟨b,hb⟩:=h j (zBa.mp hj)
  exact⟨_,b,rfl,hb⟩
section
variable {call:Nat->List D->Option R}{Z:En}
theorem eg {o:COp}{a b:C}{x y:D}{r:Option R}(ha:pk Z a (aa call Z a)=some x) (hb:pk Z b (aa call Z b)=some y) (h:eM o x y=r):aa call Z (.cmp o a b)=r:=by
 rw [fT,ha];simp only;rw [hb];exact h
theorem cQ {o:BI}{a:C}{x:D}{r:Option R}(ha:pk Z a (aa call Z a)=some x) (h:bL o [x]=r):aa call Z (.bi o [a])=r:=by
 rw [oS,pP,ha];exact h
theorem AH {e nl ks tg rs}{r:R}(h:aa call Z (.compR e nl ks tg rs)=some r):pk Z (.compR e nl ks tg rs) (aa call Z (.compR e nl ks tg rs))=some r.2:=by rw [h];rfl
theorem jv {e nl ks tg rs}{r:R}(h:aa call Z (.compS e nl ks tg rs)=some r):pk Z (.compS e nl ks tg rs) (aa call Z (.compS e nl ks tg rs))=some r.2:=by rw [h];rfl
theorem oT {o as}{r:R}(h:aa call Z (.bi o as)=some r):pk Z (.bi o as) (aa call Z (.bi o as))=some r.2:=by rw [h];rfl
theorem qMO {o as}{r:R}(h:aa call Z (.call o as)=some r):pk Z (.call o as) (aa call Z (.call o as))=some r.2:=by rw [h];rfl
theorem km {a b}{r:R}(h:aa call Z (.ix a b)=some r):pk Z (.ix a b) (aa call Z (.ix a b))=some r.2:=by rw [h];rfl
theorem j3 {a b:C}{x y:D}{r:Option R}(ha:pk Z a (aa call Z a)=some x) (hb:pk Z b (aa call Z b)=some y) (h:aM x y=r):aa call Z (.ix a b)=r:=by
 rw [gv,ha];simp only;rw [hb];exact h
theorem qQe {a b:C}{x:Bool}(ha:aa call Z a=some (x,.bl false)):aa call Z (.and a b)=some (false,.bl false):=by
 rw [r0,ha];rfl
theorem yh {a b:C}{x:Bool}{r:Option R}(ha:aa call Z a=some (x,.bl true)) (hb:aa call Z b=r):aa call Z (.and a b)=r:=by
 rw [r0,ha];exact hb
theorem j9 {a b:C}{x y:Bool}{p q:Bool}(ha:aa call Z a=some (x,.bl p)) (hb:aa call Z b=some (false,.bl q)):aa call Z (.and a b)=some (false,.bl (p&&q)):=by
 cases p with
 | true=>exact yh ha hb
 | false=>exact qQe ha
theorem mh {e:C}{nl:Nat}{ks:List Nat}{tg:Tg}{a b:C}{x y:R}{xs ys zs:List D}{Z':En}(ha:aa call Z a=some x) (hb:aa call Z b=some y) (hx:iE x.2=some xs) (hy:ox y.2=some ys) (hc:a9 Z nl ks=Z') (hf:cG call e Z' tg (bS xs ys)=some zs):aa call Z (.compZ e nl ks tg a b)=some (true,.lst zs):=by
 subst hc
 rw [qJi,ha];simp only;rw [hb];simp only;rw [hx];simp only;rw [hy];simp only;rw [hf]
end
section
variable {call:Nat->List D->Option R}{Z:En}{rest:List S}{z:Option Ou}
theorem qJw {tg:Tg}{rs:List C}{body:List S}{ds its:List D}{r:R}(h:bu call Z rs=some ds) (hr:gM ds=some its) (hf:bE call body tg its Z=some (.rt r)) (k:some (.rt r)=z):af call Z (.forR tg rs body::rest)=z:=by
 rw [Ap,h];simp only;rw [hr];simp only;rw [hf];exact k
theorem lN {m:Nat}(hs:m<=10000):gM [.int (m:Int)]=some ((List.range m).map λi=>.int (i:Nat)):=rW m hs
theorem yB {p:Nat->Bool}{m i:Nat}{rs:List C}{body:List S}{ds:List D}{r:R}(I:En->Prop) (h:bu call Z rs=some ds) (hr:gM ds=some ((List.range m).map λi=>.int (i:Nat))) (h0:I Z)
  (hT:∀j:Nat,j<m->p j=true->∀Z,I Z->af call (Z.set i (some (false,.int (j:Nat)))) body=some (.rt r))
  (hF:∀j:Nat,j<m->p j=false->∀Z,I Z->∃Z2,af call (Z.set i (some (false,.int (j:Nat)))) body=some (.nx Z2)/\I Z2)
  (kT:(List.range m).any p=true->some (.rt r)=z) (kF:(List.range m).any p=false->∀Z',I Z'->af call Z' rest=z):af call Z (.forR (.one i) rs body::rest)=z:=by
 obtain⟨a,b⟩:=Bs (call:=call) (tg:=.one i) (body:=body) p r (λi:Nat=>.int (i:Nat)) I (List.range m) Z h0 λj hj Z hZ=>⟨_,rfl,λq=>hT j (zBa.mp hj) q Z hZ,λq=>hF j (zBa.mp hj) q Z hZ⟩
 cases hp:(List.range m).any p with
 | true=>exact qJw h hr (a hp) (kT hp)
 | false =>
  obtain⟨Z',e,h'⟩:=b hp
  exact sI h hr e (kF hp Z' h')
end
theorem z9 (l j:Nat) (h:j<l):ixN l (j:Int)=some j:=by
 unfold ixN;rw [Ql (by omega),Ql (by omega)];simp
end Dw.T
namespace Dw.T
open Dw
abbrev Q4:=Int×Int×Int×Int
def q4 (q:Q4):D:=.tup [.int q.1,.int q.2.1,.int q.2.2.1,.int q.2.2.2]
theorem ef (a b:Int) (h:a.natAbs<2^64):cZ a b=true:=Qk (.inr (.inl h))
theorem jZ (a b:Int) (h:b.natAbs<2^64):cZ a b=true:=Qk (.inr (.inr (.inl h)))
theorem rB (a b:Int) (h:a.natAbs<2^240) (h':b.natAbs<2^240):cZ a b=true:=Qk (.inl ⟨h,h'⟩)
theorem qT1 (a b:Int) (h:a.natAbs<jc) (h':b.natAbs<jc):cZ a b=true:=Qk (.inr (.inr (.inr ⟨h,h'⟩)))
theorem Aq:jc=fF * 2^64:=by unfold jc fF;rw [<-Nat.pow_add]
theorem sL:2^200<=fF:=zCe (by decide) (by decide)
def dH (c:Int):Prop:=4 * c.natAbs<jc
theorem qPp {c:Int}(h:2 * c.natAbs<fF) (d:Int) (hd:d.natAbs<=2^60):dH (c+d):=by
 have h1:=Aq
 have h2:=sL
 unfold dH
 omega
theorem qZ (b:Int) (h0:b≠0) (h:b.natAbs<2^240):fG b=true:=Qk ⟨h0,.inl h⟩
theorem rE (a m:Int) (h:0<m):0<=a.fmod m/\a.fmod m<m:=by
 rw [zBe _ (by omega:0<=m)]
 exact⟨Int.emod_nonneg _ (by omega),Int.emod_lt_of_pos _ h⟩
structure Th where
 hd:Int
 sw:Nat->Int×Int×Int
 mr:Nat
 wo:Int
noncomputable def sD (p:Int×Int×Int):D:=.tup [.int p.1,.int p.2.1,.int p.2.2,.int p.2.2]
def au (m:Nat) (t:Th):D:=.tup [.int t.hd,.tup (bx m λj=>sD (t.sw j)),.int (t.mr:Int),.int t.wo]
theorem th0 (m:Nat) (t:Th):aM (au m t) (.int 0)=zF (.int t.hd):=rfl
theorem wA (m:Nat) (t:Th):aM (au m t) (.int 1)=zF (.tup (bx m λj=>sD (t.sw j))):=rfl
noncomputable def mN:Int:=170141183460469231731687303715884105727
theorem iR (a b:Int):aW (.int a) (.int b)=decide (a=b):=by rw [wg];simp
section
variable {call:Nat->List D->Option R}
theorem qOl (ns:List Int) (k:Nat):af call [zF (.lst (ns.map .int)),zF (.int (k:Int))] f_law_cell_at.body=some (.rt (false,.int (bD ns k))):=by
 by_cases h:k<ns.length
 ·have h1:decide ((k:Int)<((ns.length:Nat):Int))=true:=Qk (by omega)
  refine aV (x:=false) (r:=(false,.int (bD ns k))) (by simp only [fT,pk,ar,eI,cU,cT,cm,de,oS,pP,tK,Ab,bZ,cR,lQ,h1]) ?_ rfl
  refine ah (r:=(false,.int (bD ns k))) (j3 rfl rfl ?_) rfl
  rw [oM]
  unfold fY iP
  rw [bZ,z9 _ _ h]
  simp [bD,h]
 ·have h1:decide ((k:Int)<((ns.length:Nat):Int))=false:=Qj (by omega)
  have e:bD ns k=0:=by simp [bD,List.getElem?_eq_none (Nat.le_of_not_lt h)]
  refine aq (x:=false) (by simp only [fT,pk,ar,eI,cU,cT,cm,de,oS,pP,tK,Ab,bZ,cR,lQ,h1]) ?_
  rw [e]
  exact ah (r:=(false,.int 0)) rfl rfl
theorem qIF {e:C}{m:Nat}{r:List (Option R)}(g:Nat->D) (h:∀j:Nat,j<m->∃b,aa call (zF (.int (j:Nat))::r) e=some (b,g j)):cG call e (none::r) (.one 0) ((List.range m).map λi=>.int (i:Nat))=some (bx m g):=
 eN call _ (λi:Nat=>.int (i:Nat)) g (List.range m) λj hj=>by
  obtain⟨b,hb⟩:=h j (zBa.mp hj)
  exact⟨_,b,rfl,hb⟩
end
end Dw.T
namespace Dw.T
open Dw
noncomputable def dc (p:Prop):Bool:=@decide p (Classical.propDecidable p)
theorem dc_iff {p:Prop}:dc p=true↔p:=by unfold dc;exact @decide_eq_true_iff p (Classical.propDecidable p)
theorem wR {p:Prop}(h:p):dc p=true:=dc_iff.mpr h
theorem qUg {p:Prop}(h:¬p):dc p=false:=by
 cases e:dc p with
 | false=>rfl
 | true=>exact Qn (dc_iff.mp e) h
abbrev fe:=Option (Int×Int)
def cz:fe->D
 | none=>.non
 | some p=>bC p
def eD:fe->Int->Prop
 | none,_=>False
 | some p,t=>p.1<=t/\t<=p.2
noncomputable def bs (n r a:Int):Int:=if 0<r then max a (-((-n).fdiv r)) else a
def be (n r b:Int):Int:=if r<0 then min b (n.fdiv r) else b
def bo (n r a b:Int):fe:=if r=0/\0<n then none else if be n r b<bs n r a then none else some (bs n r a,be n r b)
theorem qN8 {n r t:Int}(h:0<r):-((-n).fdiv r)<=t↔n<=r * t:=by
 rw [wm _ (by omega:0<=r)]
 have h1:-t<=(-n) / r↔-t * r<=-n:=Int.le_ediv_iff_mul_le h
 have h2:-t * r=-(r * t):=by rw [Int.neg_mul,Int.mul_comm]
 rw [h2] at h1
 omega
theorem qQf {n r t:Int}(h:r<0):t<=n.fdiv r↔n<=r * t:=by
 have e:n.fdiv r=(-n).fdiv (-r):=(Int.neg_fdiv_neg n r).symm
 rw [e,wm _ (by omega:0<=-r)]
 have h1:t<=(-n) / (-r)↔t * -r<=-n:=Int.le_ediv_iff_mul_le (by omega)
 have h2:t * -r=-(r * t):=by rw [Int.mul_neg,Int.mul_comm]
 rw [h2] at h1
 omega
theorem bse (n r a b t:Int) (h0:¬(r=0/\0<n)):bs n r a<=t/\t<=be n r b↔a<=t/\t<=b/\n<=r * t:=by
 unfold bs be
 rcases Int.lt_trichotomy r 0 with h|h|h
 ·have:=@qQf n r t h
  rw [Qm (by omega),Ql h]
  omega
 ·subst h
  rw [Qm (by omega),Qm (by omega)]
  simp only [nN]
  omega
 ·have:=@qN8 n r t h
  rw [Ql h,Qm (by omega)]
  omega
theorem qSF (n r a b t:Int):eD (bo n r a b) t↔a<=t/\t<=b/\n<=r * t:=by
 unfold bo
 by_cases h0:r=0/\0<n
 ·rw [Ql h0]
  obtain⟨rfl,h0⟩:=h0
  simp only [eD,nN,false_iff]
  omega
 ·rw [Qm h0,<-bse n r a b t h0]
  by_cases hlt:be n r b<bs n r a
  ·rw [Ql hlt]
   simp only [eD,false_iff]
   omega
  ·rw [Qm hlt]
   exact Iff.rfl
theorem qSE {n r a b:Int}{p:Int×Int}(h:bo n r a b=some p):eD (some p) p.1:=by
 unfold bo at h
 by_cases h0:r=0/\0<n
 ·rw [Ql h0] at h;cases h
 ·rw [Qm h0] at h
  by_cases h2:be n r b<bs n r a
  ·rw [Ql h2] at h;cases h
  ·rw [Qm h2] at h
   cases h
   simp only [eD]
   omega
def bb (a b:Q4):fe->fe
 | none=>none
 | some p=>bo (a.1 - b.2.1) (b.2.2.2 - a.2.2.1) p.1 p.2
theorem xC (a b:Q4) (s:fe) (t:Int):eD (bb a b s) t↔eD s t/\a.1 - b.2.1<=(b.2.2.2 - a.2.2.1) * t:=by
 cases s with
 | none=>simp [bb,eD]
 | some p =>
  show eD (bo _ _ p.1 p.2) t↔(p.1<=t/\t<=p.2)/\_
  rw [qSF]
  exact and_assoc.symm
theorem qSK {a b:Q4}{s:fe}{p:Int×Int}(h:bb a b s=some p):eD (some p) p.1:=by
 cases s with
 | none=>cases h
 | some q=>exact qSE h
def mt (x y:Nat->Q4):Nat->fe->fe
 | 0,s=>s
 | k+1,s=>bb (y k) (x k) (bb (x k) (y k) (mt x y k s))
def kY (x y:Q4) (t:Int):Prop:=x.1 - y.2.1<=(y.2.2.2 - x.2.2.1) * t
theorem xK (x y:Nat->Q4) (s:fe) (t:Int):∀k,eD (mt x y k s) t↔eD s t/\∀j,j<k->kY (x j) (y j) t/\kY (y j) (x j) t
 | 0=>by simp [mt]
 | k+1=>by
  show eD (bb _ _ (bb _ _ (mt x y k s))) t↔_
  rw [xC,xC,xK x y s t k]
  constructor
  ·rintro⟨⟨⟨h1,h2⟩,h3⟩,h4⟩
   refine⟨h1,λj hj=>?_⟩
   by_cases e:j=k
   ·subst e;exact⟨h3,h4⟩
   ·exact h2 j (by omega)
  ·rintro⟨h1,h2⟩
   exact⟨⟨⟨h1,λj hj=>h2 j (by omega)⟩,(h2 k (by omega)).1⟩,(h2 k (by omega)).2⟩
theorem qR8 {x y:Nat->Q4}{s:fe}{k:Nat}{p:Int×Int}(h:mt x y (k+1) s=some p):eD (some p) p.1:=qSK h
def Pm (m:Nat) (c:Nat->Q4) (f:Nat->P2) (t:Int):Prop:=∀j,j<m->(c j).1+(c j).2.2.1 * t<=(f j).2/\(f j).1<=(c j).2.1+(c j).2.2.2 * t
def Cm (m:Nat) (c:Nat->Q4) (f:Nat->P2) (a b:Int):Prop:=∃t,a<=t/\t<=b/\Pm m c f t
noncomputable def d6 (p:P2):Q4:=(p.1,p.2,0,0)
theorem eO (c:Q4) (p:P2) (t:Int):kY c (d6 p) t↔c.1+c.2.2.1 * t<=p.2:=by
 unfold kY d6
 rw [Int.sub_mul]
 simp only [nN]
 omega
theorem tX (c:Q4) (p:P2) (t:Int):kY (d6 p) c t↔p.1<=c.2.1+c.2.2.2 * t:=by
 unfold kY d6
 rw [Int.sub_mul]
 simp only [nN]
 omega
theorem qNg (m:Nat) (hm:0<m) (c:Nat->Q4) (f:Nat->P2) (a b:Int):(mt c (λj=>d6 (f j)) m (some (a,b))).isSome=dc (Cm m c f a b):=by
 have key:∀t,eD (mt c (λj=>d6 (f j)) m (some (a,b))) t↔(a<=t/\t<=b)/\Pm m c f t:=λt=>by
  rw [xK]
  simp only [eD,eO,tX]
  rfl
 cases e:mt c (λj=>d6 (f j)) m (some (a,b)) with
 | none =>
  refine (qUg ?_).symm
  rintro⟨t,h1,h2,h3⟩
  have:=(key t).mpr ⟨⟨h1,h2⟩,h3⟩
  rw [e] at this
  exact this
 | some p =>
  refine (wR ?_).symm
  obtain⟨k,rfl⟩:∃k,m=k+1:=⟨m - 1,by omega⟩
  have h:=qR8 e
  rw [<-e] at h
  obtain⟨⟨h1,h2⟩,h3⟩:=(key p.1).mp h
  exact⟨p.1,h1,h2,h3⟩
noncomputable def aN (u:Th) (j:Nat):Q4:=((u.sw j).1,(u.sw j).2.1,(u.sw j).2.2,(u.sw j).2.2)
end Dw.T
namespace Dw.T
open Dw
section
variable {call:Nat->List D->Option R}
theorem qL9 {Z:En}{rest:List S}{z:Option Ou}{tg:Tg}{a b:C}{body:List S}{x y:R}{xs ys:List D}{Z':En}(ha:aa call Z a=some x) (hb:aa call Z b=some y) (hx:iE x.2=some xs) (hy:ox y.2=some ys) (hf:bE call body tg (bS xs ys) Z=some (.nx Z')) (k:af call Z' rest=z):af call Z (.forZ tg a b body::rest)=z:=by
 rw [qLH,ha];simp only;rw [hb];simp only;rw [hx];simp only;rw [hy];simp only;rw [hf];exact k
theorem zI (n r a b:Int) (hr:r.natAbs<2^100):af call [zF (.int n),zF (.int r),zF (.int a),zF (.int b),none,none] f_beats_of.body=some (.rt (false,cz (bo n r a b))):=by
 by_cases h0:r=0/\0<n
 ·have e:bo n r a b=none:=by unfold bo;rw [Ql h0]
  obtain⟨rfl,h1⟩:=h0
  have d1:decide (0<n)=true:=Qk h1
  rw [e]
  exact aV (x:=false) (by simp [d1]) (ah rfl rfl) rfl
 ·have d0:aa call [zF (.int n),zF (.int r),zF (.int a),zF (.int b),none,none] (.and (.cmp .eq V1 (kI 0)) (.cmp .gt V0 (kI 0)))=zF (.bl false):=by
   by_cases hz:r=0
   ·subst hz
    have d1:decide (0<n)=false:=Qj (by omega)
    simp [d1]
   ·have d1:aW (.int r) (.int 0)=false:=by simp [hz]
    simp only [r0,fT,pk,ar,eI,cU,cT,cm,de,dQ,cR,lX,d1,reduceCtorEq,↓reduceIte]
  refine aq d0 ?_
  refine aF _ rfl ?_
  refine aF _ rfl ?_
  have fin:af call [zF (.int n),zF (.int r),zF (.int a),zF (.int b),zF (.int (bs n r a)),zF (.int (be n r b))] (f_beats_of.body.drop 5)=some (.rt (false,cz (bo n r a b))):=by
   unfold bo
   rw [Qm h0]
   by_cases hlt:be n r b<bs n r a
   ·rw [Ql hlt]
    have d1:decide (be n r b<bs n r a)=true:=Qk hlt
    exact aV (x:=false) (by simp [d1]) (ah rfl rfl) rfl
   ·rw [Qm hlt]
    have d1:decide (be n r b<bs n r a)=false:=Qj hlt
    refine aq (x:=false) (by simp [d1]) ?_
    exact ah rfl rfl
  rcases Int.lt_trichotomy r 0 with h|h|h
  ·have d1:decide (0<r)=false:=Qj (by omega)
   have d2:decide (r<0)=true:=Qk h
   have dv:=qZ r (by omega) (by omega)
   have e1:bs n r a=a:=by unfold bs;rw [Qm (by omega)]
   have e2:be n r b=min b (n.fdiv r):=by unfold be;rw [Ql h]
   rw [e1,e2] at fin
   refine aq (x:=false) (by simp [d1]) ?_
   refine iy (x:=false) (by simp [d2]) (aF (false,.int (min b (n.fdiv r))) (by simp [dv]) rfl) fin
  ·have d1:decide (0<r)=false:=Qj (by omega)
   have d2:decide (r<0)=false:=Qj (by omega)
   have e1:bs n r a=a:=by unfold bs;rw [Qm (by omega)]
   have e2:be n r b=b:=by unfold be;rw [Qm (by omega)]
   rw [e1,e2] at fin
   refine aq (x:=false) (by simp [d1]) ?_
   refine aq (x:=false) (by simp [d2]) fin
  ·have d1:decide (0<r)=true:=Qk h
   have d2:decide (r<0)=false:=Qj (by omega)
   have dv:=qZ r (by omega) (by omega)
   have e1:bs n r a=max a (-((-n).fdiv r)):=by unfold bs;rw [Ql h]
   have e2:be n r b=b:=by unfold be;rw [Qm (by omega)]
   rw [e1,e2] at fin
   refine iy (x:=false) (by simp [d1]) (aF (false,.int (max a (-((-n).fdiv r)))) (by simp [dv]) rfl) ?_
   refine aq (x:=false) (by simp [d2]) fin
theorem mM (q:Q4):aM (q4 q) (.int 0)=zF (.int q.1):=rfl
theorem mL (q:Q4):aM (q4 q) (.int 1)=zF (.int q.2.1):=rfl
theorem mK (q:Q4):aM (q4 q) (.int 2)=zF (.int q.2.2.1):=rfl
theorem mJ (q:Q4):aM (q4 q) (.int 3)=zF (.int q.2.2.2):=rfl
theorem zJ (a b:Q4) (s:fe) (hr:(b.2.2.2 - a.2.2.1).natAbs<2^100) (B:∀n r a b:Int,r.natAbs<2^100->call 42 [.int n,.int r,.int a,.int b]=zF (cz (bo n r a b))) :
  af call [zF (q4 a),zF (q4 b),zF (cz s)] f_beats_below.body=some (.rt (false,cz (bb a b s))):=by
 cases s with
 | none=>exact aV rfl (ah rfl rfl) rfl
 | some p =>
  have q:=B (a.1 - b.2.1) (b.2.2.2 - a.2.2.1) p.1 p.2 hr
  refine aq rfl ?_
  exact ah (by simp only [cz];simp [mM,mL,mJ,mK,gw,gy,q];rfl) rfl
theorem qHd (m:Nat) (x y:Nat->Q4) (a b:Int) (hs:∀j,j<m->((y j).2.2.2 - (x j).2.2.1).natAbs<2^100/\((x j).2.2.2 - (y j).2.2.1).natAbs<2^100)
  (B:∀(a b:Q4) (s:fe),(b.2.2.2 - a.2.2.1).natAbs<2^100->call 43 [q4 a,q4 b,cz s]=zF (cz (bb a b s))) :
  af call [zF (.tup (bx m λj=>q4 (x j))),zF (.tup (bx m λj=>q4 (y j))),zF (.int a),zF (.int b),none,none,none] f_meeting.body=some (.rt (false,cz (mt x y m (some (a,b))))):=by
 refine aF _ rfl ?_
 obtain⟨Z',h',hZ⟩:=tR (tg:=.two 5 6) (body:=wc) (λk Z=>∃o5 o6:Option R,Z=[zF (.tup (bx m λj=>q4 (x j))),zF (.tup (bx m λj=>q4 (y j))),zF (.int a),zF (.int b),zF (cz (mt x y k (some (a,b)))),o5,o6]) m (λj=>.tup [q4 (x j),q4 (y j)])
  [zF (.tup (bx m λj=>q4 (x j))),zF (.tup (bx m λj=>q4 (y j))),zF (.int a),zF (.int b),zF (bC (a,b)),none,none] ⟨_,_,rfl⟩ (by
   rintro k Z hk ⟨o5,o6,rfl⟩
   obtain⟨h1,h2⟩:=hs k hk
   have q1:=B (x k) (y k) (mt x y k (some (a,b))) h1
   have q2:=B (y k) (x k) (bb (x k) (y k) (mt x y k (some (a,b)))) h2
   refine⟨_,_,rfl,?_,zF (q4 (x k)),zF (q4 (y k)),rfl⟩
   refine aF _ q1 ?_
   exact aF _ q2 rfl)
 obtain⟨o5,o6,rfl⟩:=hZ
 rw [<-o7] at h'
 refine qL9 rfl rfl rfl rfl h' ?_
 exact ah rfl rfl
theorem qLT (m:Nat) (f:Nat->P2):af call [zF (ak m f)] f_still_swath.body=some (.rt (false,.tup (bx m λj=>q4 (d6 (f j))))):=by
 have hc:=gP (call:=call) (Z:=[zF (ak m f)]) (e:=(.tup [(.ix V0 (kI 0)),(.ix V0 (kI 1)),(kI 0),(kI 0)])) (nl:=1) (ks:=[]) (src:=.v 0) rfl (pO m f) rfl
  (pL (λj=>bC (f j)) (λj=>q4 (d6 (f j))) λj hj=>⟨false,by simp only [zAq,ar,zAz,fU,eC,gv,pk,cU,cT,cm,de,dQ,cR,gw,gy,fI,d4,f9,Nat.reduceAdd,qT3,↓reduceIte];rfl⟩)
 exact ah (cQ (by show (aa call _ _).map (·.2)=_;rw [hc];rfl) rfl) rfl
theorem qL1 (m:Nat) (hm:0<m) (c:Nat->Q4) (f:Nat->P2) (a b:Int) (C4:call 4 [ak m f]=zF (.tup (bx m λj=>q4 (d6 (f j)))))
  (C3:call 44 [.tup (bx m λj=>q4 (c j)),.tup (bx m λj=>q4 (d6 (f j))),.int a,.int b]=zF (cz (mt c (λj=>d6 (f j)) m (some (a,b))))) :
  af call [zF (.tup (bx m λj=>q4 (c j))),zF (ak m f),zF (.int a),zF (.int b)] f_crosses_box.body=some (.rt (false,.bl (dc (Cm m c f a b)))):=by
 have e:B3 true (cz (mt c (λj=>d6 (f j)) m (some (a,b)))) .non=zF (.bl (dc (Cm m c f a b))):=by
  rw [<-qNg m hm]
  cases mt c (λj=>d6 (f j)) m (some (a,b))<;>rfl
 exact ah (by simp [C4,C3,e]) rfl
end
end Dw.T
namespace Dw.T
open Dw
def vZ (q:Int×Int×Int):Prop:=(-(10^31)<=q.1/\q.1<=10^31)/\(-(10^31)<=q.2.1/\q.2.1<=10^31)/\(-(10^15)<=q.2.2/\q.2.2<=10^15)
theorem yy {a b A B:Int}(h:-A<=a/\a<=A) (h':0<=b/\b<=B) (hA:0<=A):-(A * B)<=a * b/\a * b<=A * B:=by
 have h1:a * b<=A * b:=nA h.2 h'.1
 have h2:(-A) * b<=a * b:=nA h.1 h'.1
 have h3:A * b<=A * B:=Int.mul_le_mul_of_nonneg_left h'.2 hA
 rw [Int.neg_mul] at h2
 omega
def bM (t:Th):Prop:=(∀j,vZ (t.sw j))/\t.mr<65536
inductive At where
 | any|meets (f:Nat->P2)|inside (f:Nat->P2)|holds (f:Nat->P2)|near (f:Nat->P2) (r:Int)|marked (k:Nat)|touched (k:Nat)|crosses (f:Nat->P2) (a b:Int)|worthy (w:Int)
def bI (m:Nat):At->D
 | .any=>.tup [tx "anything"]
 | .meets f=>.tup [tx "meets",ak m f]
 | .inside f=>.tup [tx "inside",ak m f]
 | .holds f=>.tup [tx "holds",ak m f]
 | .near f r=>.tup [tx "near",ak m f,.int r]
 | .marked k=>.tup [tx "marked",.int (k:Int)]
 | .touched k=>.tup [tx "touched",.int (k:Int)]
 | .crosses f a b=>.tup [tx "crosses",ak m f,.int a,.int b]
 | .worthy w=>.tup [tx "worthy",.int w]
def BdA (q:P2):Prop:=(-(10^32)<=q.1/\q.1<=10^32)/\(-(10^32)<=q.2/\q.2<=10^32)
def gJ:At->Prop
 | .any=>True
 | .meets f=>∀j,BdA (f j)
 | .inside f=>∀j,BdA (f j)
 | .holds f=>∀j,BdA (f j)
 | .near f _=>∀j,BdA (f j)
 | .marked _=>True
 | .touched _=>True
 | .crosses f a b=>(∀j,BdA (f j))/\(0<=a/\a<=10^15)/\(0<=b/\b<=10^15)
 | .worthy _=>True
noncomputable def kn (c:Nat) (l:List String):Kn:=⟨c,l.map Qa⟩
def nU (m:Nat):At->Kn×List D
 | .any=>(⟨415,[]⟩,[])
 | .meets f=>(⟨455,[Qa "box"]⟩,[ak m f])
 | .inside f=>(⟨495,[Qa "box"]⟩,[ak m f])
 | .holds f=>(⟨535,[Qa "box"]⟩,[ak m f])
 | .near f r=>(⟨575,[Qa "box",Qa "far"]⟩,[ak m f,.int r])
 | .marked k=>(⟨615,[Qa "marks"]⟩,[.int (k:Int)])
 | .touched k=>(⟨655,[Qa "marks"]⟩,[.int (k:Int)])
 | .crosses f a b=>(⟨695,[Qa "box",Qa "first",Qa "last"]⟩,[ak m f,.int a,.int b])
 | .worthy w=>(⟨735,[Qa "least"]⟩,[.int w])
end Dw.T
namespace Dw.T
open Dw
abbrev Fr:=Nat->Q4
def aT (m:Nat) (c:Fr):D:=.tup (bx m λj=>q4 (c j))
noncomputable def qA (c:Fr) (t:Int) (j:Nat):P2:=((c j).1+(c j).2.2.1 * t,(c j).2.1+(c j).2.2.2 * t)
def hW (q:Q4):Prop:=(-(10^31)<=q.1/\q.1<=10^31)/\(-(10^31)<=q.2.1/\q.2.1<=10^31)/\(-(10^15)<=q.2.2.1/\q.2.2.1<=10^15)/\(-(10^15)<=q.2.2.2/\q.2.2.2<=10^15)
def i6 (c:Fr):Prop:=∀j,hW (c j)
def sm (p q:P2):Bool:=decide (p.1<=q.2)&&decide (q.1<=p.2)
def si (p q:P2):Bool:=decide (q.1<=p.1)&&decide (p.2<=q.2)
def gp (p q:P2):Int:=max (max 0 (p.1 - q.2)) (q.1 - p.2)
def eY (m:Nat) (g f:Nat->P2):Bool:=(List.range m).all λj=>sm (g j) (f j)
def eF (m:Nat) (g f:Nat->P2):Bool:=(List.range m).all λj=>si (g j) (f j)
def dg (m:Nat) (g f:Nat->P2):Int:=((List.range m).map λj=>gp (g j) (f j) * gp (g j) (f j)).sum
theorem x5 (m:Nat) (p:Nat->Bool):bL .all [.lst (bx m λj=>.bl (p j))]=zF (.bl ((List.range m).all p)):=by
 rw [qNR,show (bx m λj=>D.bl (p j))=(List.range m).map λj=>.bl (p j) from rfl,pJ]
 simp [List.all_map,Function.comp_def]
theorem qOq (m:Nat) (p:Nat->Int):bL .sum [.lst (bx m λj=>.int (p j))]=zF (.int ((List.range m).map p).sum):=by
 rw [qNQ,show (bx m λj=>D.int (p j))=(List.range m).map λj=>.int (p j) from rfl,Bu]
 rfl
def eH (q:P2):Prop:=(-(10^33)<=q.1/\q.1<=10^33)/\(-(10^33)<=q.2/\q.2<=10^33)
theorem BdA.b {q:P2}(h:BdA q):eH q:=by unfold BdA at h;unfold eH;omega
theorem oU {c:Fr}(hc:i6 c) {t:Int}(ht:0<=t/\t<=10^15) (j:Nat):eH (qA c t j):=by
 have h:=hc j
 unfold hW at h
 have h1:=yy (A:=10^15) (B:=10^15) h.2.2.1 ht (by decide)
 have h2:=yy (A:=10^15) (B:=10^15) h.2.2.2 ht (by decide)
 show (-(10^33)<=(c j).1+(c j).2.2.1 * t/\(c j).1+(c j).2.2.1 * t<=10^33)/\(-(10^33)<=(c j).2.1+(c j).2.2.2 * t/\(c j).2.1+(c j).2.2.2 * t<=10^33)
 omega
theorem xS {p q:P2}(hp:eH p) (hq:eH q):(gp p q).natAbs<2^200:=by
 unfold eH at hp hq
 unfold gp
 omega
section
variable {call:Nat->List D->Option R}
theorem xb (p q:P2):af call [zF (bC p),zF (bC q)] f_sides_meet.body=some (.rt (false,.bl (sm p q))):=by
 refine ah (j9 (x:=false) (y:=false) ?_ ?_) rfl
 ·simp [gw,gy]
 ·simp [gw,gy]
theorem w9 (p q:P2):af call [zF (bC p),zF (bC q)] f_side_inside.body=some (.rt (false,.bl (si p q))):=by
 refine ah (j9 (x:=false) (y:=false) ?_ ?_) rfl
 ·simp [gw]
 ·simp [gy]
theorem w8 (p q:P2):af call [zF (bC p),zF (bC q)] f_side_gap.body=some (.rt (false,.int (gp p q))):=
 ah (by simp only [fO,oS,pP,pk,dQ,cR,gU,gv,ar,cU,cT,cm,de,gw,eI,gy,tI,tK,qKA];rfl) rfl
theorem xn (m:Nat) (g f:Nat->P2) (C1:∀p q,call 36 [bC p,bC q]=zF (.bl (sm p q))):af call [zF (ak m g),zF (ak m f)] f_boxes_meet.body=some (.rt (false,.bl (eY m g f))):=by
 have hc:=mh (call:=call) (Z:=[zF (ak m g),zF (ak m f)]) (e:=(.call 36 [V0,V1])) (nl:=2) (ks:=[]) (a:=.v 0) (b:=.v 1) rfl rfl (pO m g) rfl rfl
  (tJ (F:=λj=>bC (g j)) (G:=λj=>bC (f j)) (λj=>.bl (sm (g j) (f j))) λj hj=>⟨false,by have:=C1 (g j) (f j);simp [this]⟩)
 exact ah (cQ (by show (aa call _ _).map (·.2)=_;rw [hc];rfl) (x5 m _)) rfl
theorem xm (m:Nat) (g f:Nat->P2) (C2:∀p q,call 37 [bC p,bC q]=zF (.bl (si p q))):af call [zF (ak m g),zF (ak m f)] f_box_inside.body=some (.rt (false,.bl (eF m g f))):=by
 have hc:=mh (call:=call) (Z:=[zF (ak m g),zF (ak m f)]) (e:=(.call 37 [V0,V1])) (nl:=2) (ks:=[]) (a:=.v 0) (b:=.v 1) rfl rfl (pO m g) rfl rfl
  (tJ (F:=λj=>bC (g j)) (G:=λj=>bC (f j)) (λj=>.bl (si (g j) (f j))) λj hj=>⟨false,by have:=C2 (g j) (f j);simp [this]⟩)
 exact ah (cQ (by show (aa call _ _).map (·.2)=_;rw [hc];rfl) (x5 m _)) rfl
theorem xl (m:Nat) (g f:Nat->P2) (hg:∀j,eH (g j)) (hf:∀j,eH (f j)) (C3:∀p q,call 38 [bC p,bC q]=zF (.int (gp p q))):af call [zF (ak m g),zF (ak m f),none] f_box_gap.body=some (.rt (false,.int (dg m g f))):=by
 have hc:=mh (call:=call) (Z:=[zF (ak m g),zF (ak m f),none]) (e:=(.call 38 [V0,V1])) (nl:=2) (ks:=[]) (a:=.v 0) (b:=.v 1) rfl rfl (pO m g) rfl rfl
  (tJ (F:=λj=>bC (g j)) (G:=λj=>bC (f j)) (λj=>.int (gp (g j) (f j))) λj hj=>⟨false,by have:=C3 (g j) (f j);simp [this]⟩)
 refine aF _ hc ?_
 have hd:=gP (call:=call) (Z:=[zF (ak m g),zF (ak m f),zF (.lst (bx m λj=>.int (gp (g j) (f j))))]) (e:=(.bin .mul V0 V0)) (nl:=1) (ks:=[]) (src:=.v 2) rfl rfl rfl
  (pL (λj=>.int (gp (g j) (f j))) (λj=>.int (gp (g j) (f j) * gp (g j) (f j))) λj hj=>⟨false,by
   have:=xS (hg j) (hf j)
   have m1:=rB (gp (g j) (f j)) (gp (g j) (f j)) (by omega) (by omega)
   simp [m1]⟩)
 exact ah (cQ (jv hd) (qOq m _)) rfl
theorem xr (q:Q4) (t:Int) (ht:t.natAbs<2^64):af call [zF (q4 q),zF (.int t)] f_side_at.body=some (.rt (false,bC (q.1+q.2.2.1 * t,q.2.1+q.2.2.2 * t))):=by
 have m1:=jZ q.2.2.1 t ht
 have m2:=jZ q.2.2.2 t ht
 exact ah (by simp only [fO,fU,eC,gU,pk,gv,ar,cU,cT,cm,de,dQ,cR,mM,mK,eI,lR,m1,↓reduceIte,kP,mL,mJ,m2,fI,d4,f9,Nat.reduceAdd,wY];rfl) rfl
theorem xo (m:Nat) (c:Fr) (t:Int) (C10:∀q:Q4,call 1 [q4 q,.int t]=zF (bC (q.1+q.2.2.1 * t,q.2.1+q.2.2.2 * t))):af call [zF (aT m c),zF (.int t)] f_frame_at.body=some (.rt (false,ak m (qA c t))):=by
 have hc:=gP (call:=call) (Z:=[zF (aT m c),zF (.int t)]) (e:=(.call 1 [V0,V1])) (nl:=1) (ks:=[1]) (src:=.v 0) rfl rfl rfl
  (pL (λj=>q4 (c j)) (λj=>bC (qA c t j)) λj hj=>⟨false,by have:=C10 (c j);simp [this];rfl⟩)
 exact ah (cQ (jv hc) rfl) rfl
theorem qQl (m:Nat) (c:Fr) (f:Nat->P2) (a b:Int):((List.range (b+1 - a).toNat).any λi=>eY m (qA c (a+(i:Nat))) f)=dc (Cm m c f a b):=by
 rw [wg,dc_iff,lx]
 unfold Cm
 constructor
 ·rintro⟨i,hi,h⟩
  have hi:=zBa.mp hi
  refine⟨a+(i:Nat),by omega,by omega,λj hj=>?_⟩
  have:=zBd.mp h j (zBa.mpr hj)
  unfold sm qA at this
  simp only [lg,decide_eq_true_eq] at this
  exact this
 ·rintro⟨t,h1,h2,h3⟩
  refine⟨(t - a).toNat,zBa.mpr (by omega),?_⟩
  rw [show a+(((t - a).toNat:Nat):Int)=t by omega]
  refine zBd.mpr λj hj=>?_
  have:=h3 j (zBa.mp hj)
  unfold sm qA
  simp only [lg,decide_eq_true_eq]
  exact this
end
end Dw.T
namespace Dw.T
open Dw
def fD (m:Nat) (a:At) (c:Fr) (x:Nat) (wo:Int) (t:Int):Bool:=match a with
 | .any=>true
 | .meets f=>eY m (qA c t) f
 | .inside f=>eF m (qA c t) f
 | .holds f=>eF m f (qA c t)
 | .near f r=>decide (dg m (qA c t) f<=r)
 | .marked k=>decide (((x &&& k:Nat):Int)=(k:Int))
 | .touched k=>!decide (((x &&& k:Nat):Int)=0)
 | .crosses f a b=>dc (Cm m c f a b)
 | .worthy w=>decide (w<=wo)
section
variable {call:Nat->List D->Option R}
theorem xp (x k:Nat):af call [zF (.int (x:Int)),zF (.int (k:Int))] f_has_each.body=some (.rt (false,.bl (decide (((x &&& k:Nat):Int)=(k:Int))))):=by
 have n1:(0:Int)<=(x:Int):=by omega
 have n2:(0:Int)<=(k:Int):=by omega
 exact ah (r:=(false,.bl (decide (((x &&& k:Nat):Int)=(k:Int))))) rfl rfl
theorem xq (x k:Nat):af call [zF (.int (x:Int)),zF (.int (k:Int))] f_has_one.body=some (.rt (false,.bl (!decide (((x &&& k:Nat):Int)=0)))):=by
 have n1:(0:Int)<=(x:Int):=by omega
 have n2:(0:Int)<=(k:Int):=by omega
 exact ah (r:=(false,.bl (!decide (((x &&& k:Nat):Int)=0)))) rfl rfl
end
end Dw.T
namespace Dw.T
open Dw
structure To where
 cov:Fr
 hrt:Fr
 so:Nat
 ev:Nat
 n:Int
 lo:Int
 hi:Int
 su:Int
def aI (m:Nat) (o:To):D:=.tup [aT m o.cov,aT m o.hrt,.int (o.so:Int),.int (o.ev:Int),.int o.n,.int o.lo,.int o.hi,.int o.su]
theorem to0 (m:Nat) (o:To):aM (aI m o) (.int 0)=zF (aT m o.cov):=rfl
theorem to1 (m:Nat) (o:To):aM (aI m o) (.int 1)=zF (aT m o.hrt):=rfl
theorem to2 (m:Nat) (o:To):aM (aI m o) (.int 2)=zF (.int (o.so:Int)):=rfl
theorem to3 (m:Nat) (o:To):aM (aI m o) (.int 3)=zF (.int (o.ev:Int)):=rfl
theorem to5 (m:Nat) (o:To):aM (aI m o) (.int 5)=zF (.int o.lo):=rfl
theorem to6 (m:Nat) (o:To):aM (aI m o) (.int 6)=zF (.int o.hi):=rfl
def dC (c h:Q4):Prop:=c.1<=h.1/\h.2.1<=c.2.1/\c.2.2.1<=h.2.2.1/\h.2.2.2<=c.2.2.2
structure ToOk (o:To):Prop where
 cov:i6 o.cov
 hrt:i6 o.hrt
 le:∀j,dC (o.cov j) (o.hrt j)
 mr:o.ev &&& o.so=o.ev
 wo:o.lo<=o.hi
inductive Wd where|ev|no|op
 deriving DecidableEq
def aS:Wd->D
 | .ev=>tx "every"
 | .no=>tx "none"
 | .op=>tx "open"
noncomputable def jD (a:At) (o:To):Fr:=match a with
 | .inside _=>o.cov
 | _=>o.hrt
noncomputable def out (a:At) (o:To):Fr:=match a with
 | .inside _=>o.hrt
 | _=>o.cov
def lD (p q:Bool):Wd:=if q then (if p then .ev else .op) else .no
def vf (p q:Bool):Wd:=if p then .ev else if q then .no else .op
theorem qRi {p q:Bool}(h:p=true->q=true):vf p (!q)=lD p q:=by cases p<;>cases q<;>first|rfl|exact Qn (h rfl) (by decide)
def nS (m:Nat) (a:At) (o:To) (t:Int):Wd:=lD (fD m a (jD a o) o.ev o.lo t) (fD m a (out a o) o.so o.hi t)
theorem xY {c h:Fr}{j:Nat}{t:Int}(le:dC (c j) (h j)) (ht:0<=t):(qA c t j).1<=(qA h t j).1/\(qA h t j).2<=(qA c t j).2:=by
 obtain⟨l1,l2,l3,l4⟩:=le
 have a:=nA l3 ht
 have b:=nA l4 ht
 unfold qA
 exact⟨Int.add_le_add l1 a,Int.add_le_add l2 b⟩
theorem tF {m:Nat}{p q:Nat->Bool}(h:∀j,p j=true->q j=true) (hp:(List.range m).all p=true):(List.range m).all q=true:=
 zBd.mpr λj hj=>h j (zBd.mp hp j hj)
theorem AW {f g:Nat->Int}:∀l:List Nat,(∀j,f j<=g j)->(l.map f).sum<=(l.map g).sum
 | [],_=>hX _
 | x::r,h=>by
  rw [gD,gD,List.sum_cons,List.sum_cons]
  exact Int.add_le_add (h x) (AW r h)
theorem mono (m:Nat) (a:At) (o:To) (ok:ToOk o) (t:Int) (ht:0<=t) (ha:gJ a):fD m a (jD a o) o.ev o.lo t=true->fD m a (out a o) o.so o.hi t=true:=by
 have le:=λj=>xY (ok.le j) ht
 cases a with
 | any=>exact λ_=>rfl
 | meets f =>
  refine tF λj h=>?_
  have:=le j
  unfold sm at h ⊢
  simp only [lg,decide_eq_true_eq] at h ⊢
  simp only [jD,out] at h ⊢
  omega
 | inside f =>
  refine tF λj h=>?_
  have:=le j
  unfold si at h ⊢
  simp only [lg,decide_eq_true_eq] at h ⊢
  simp only [jD,out] at h ⊢
  omega
 | holds f =>
  refine tF λj h=>?_
  have:=le j
  unfold si at h ⊢
  simp only [lg,decide_eq_true_eq] at h ⊢
  simp only [jD,out] at h ⊢
  omega
 | near f r =>
  intro h
  have h:=Qp (show decide (dg m (qA o.hrt t) f<=r)=true from h)
  refine Qk (lu ?_ h)
  refine AW _ λj=>?_
  have:=le j
  have g1:gp (qA o.cov t j) (f j)<=gp (qA o.hrt t j) (f j):=by unfold gp;omega
  have g0:0<=gp (qA o.cov t j) (f j):=by unfold gp;omega
  exact Int.mul_le_mul g1 g1 g0 (lu g0 g1)
 | marked k =>
  intro h
  have h:o.ev &&& k=k:=Int.ofNat_inj.mp (Qp (show decide (((o.ev &&& k:Nat):Int)=(k:Int))=true from h))
  refine Qk ?_
  have e:o.so &&& k=k:=by
   rw [<-h,<-Nat.and_assoc,Nat.and_comm o.so,ok.mr]
  rw [e]
 | touched k =>
  intro h
  have h:¬((o.ev &&& k:Nat):Int)=0:=by
   have h:(!decide (((o.ev &&& k:Nat):Int)=0))=true:=h
   simpa using h
  have g:¬((o.so &&& k:Nat):Int)=0:=λz=>h (by
   have z:o.so &&& k=0:=by omega
   rw [<-ok.mr,Nat.and_assoc,z,Nat.and_zero]
   rfl)
  show (!decide (((o.so &&& k:Nat):Int)=0))=true
  rw [Qj g]
  rfl
 | crosses f a b =>
  intro h
  obtain⟨t',h1,h2,h3⟩:=dc_iff.mp (show dc (Cm m o.hrt f a b)=true from h)
  refine wR (p:=Cm m o.cov f a b) ⟨t',h1,h2,λj hj=>?_⟩
  have:=h3 j hj
  have q:=xY (ok.le j) (t:=t') (by have:=ha.2.1;omega)
  unfold qA at q
  simp only at q
  omega
 | worthy w =>
  intro h
  have h:=Qp (show decide (w<=o.lo)=true from h)
  exact Qk (lu h ok.wo)
section
variable {call:Nat->List D->Option R}
theorem ow (p q:Bool):af call [zF (.bl p),zF (.bl q)] f_verdict_from.body=some (.rt (false,aS (vf p q))):=by
 cases p<;>cases q<;>rfl
structure On (call:Nat->List D->Option R) (m:Nat) (o:To) (t:Int):Prop where
 bm:∀g f:Nat->P2,call 39 [ak m g,ak m f]=zF (.bl (eY m g f))
 bi:∀g f:Nat->P2,call 40 [ak m g,ak m f]=zF (.bl (eF m g f))
 bg:∀g f:Nat->P2,(∀j,eH (g j))->(∀j,eH (f j))->call 41 [ak m g,ak m f]=zF (.int (dg m g f))
 tc:call 13 [aI m o]=zF (aT m o.cov)
 th:call 14 [aI m o]=zF (aT m o.hrt)
 so:call 15 [aI m o]=zF (.int (o.so:Int))
 ev:call 16 [aI m o]=zF (.int (o.ev:Int))
 lo:call 17 [aI m o]=zF (.int o.lo)
 hi:call 18 [aI m o]=zF (.int o.hi)
 vf:∀p q:Bool,call 45 [.bl p,.bl q]=zF (aS (vf p q))
 ca:call 46 [aI m o,.int t]=zF (ak m (qA o.cov t))
 ha:call 47 [aI m o,.int t]=zF (ak m (qA o.hrt t))
 he:∀x k:Nat,call 48 [.int (x:Int),.int (k:Int)]=zF (.bl (decide (((x &&& k:Nat):Int)=(k:Int))))
 ho:∀x k:Nat,call 49 [.int (x:Int),.int (k:Int)]=zF (.bl (!decide (((x &&& k:Nat):Int)=0)))
 cr:∀(c:Fr) (f:Nat->P2) (a b:Int),i6 c->call 50 [aT m c,ak m f,.int a,.int b]=zF (.bl (dc (Cm m c f a b)))
noncomputable def Ci:At->Nat
 | .any=>74|.meets _=>76|.inside _=>78|.holds _=>80|.near _ _=>82|.marked _=>84|.touched _=>86|.crosses _ _ _=>88|.worthy _=>90
noncomputable def Cg:At->Nat
 | .any=>73|.meets _=>75|.inside _=>77|.holds _=>79|.near _ _=>81|.marked _=>83|.touched _=>85|.crosses _ _ _=>87|.worthy _=>89
def Cj:At->Fd
 | .any=>BW|.meets _=>BJ|.inside _=>BM|.holds _=>BH|.near _ _=>f_Near_verdict|.marked _=>BN|.touched _=>BQ|.crosses _ _ _=>f_Crosses_verdict|.worthy _=>BO
def atC:At->Fd
 | .any=>BL|.meets _=>BA|.inside _=>BR|.holds _=>Bz|.near _ _=>BD|.marked _=>BS|.touched _=>BK|.crosses _ _ _=>BG|.worthy _=>BU
def bG (m:Nat) (a:At):D:=.obj (nU m a).1 (nU m a).2
theorem qG8 (m:Nat) (a:At) (hok:gJ a) (o:To) (ok:ToOk o) (t:Int) (ht:0<=t/\t<=10^15) (O:On call m o t) :
  af call (zF (bG m a)::zF (aI m o)::zF (.int t)::List.replicate ((Cj a).ns - 3) none) (Cj a).body=some (.rt (false,aS (nS m a o t))):=by
 have hm:=mono m a o ok t ht.1 hok
 unfold nS
 rw [<-qRi hm]
 clear hm
 have tc:=O.tc
 have th:=O.th
 have so:=O.so
 have ev:=O.ev
 have lo:=O.lo
 have hi:=O.hi
 have ca:=O.ca
 have hx:=O.ha
 have v:=O.vf
 cases a with
 | any=>rfl
 | meets f =>
  have fb:cg 0 (Qa "box") (bG m (.meets f))=zF (ak m f):=rfl
  have q1:=O.bm (qA o.cov t) f
  have q2:=O.bm (qA o.hrt t) f
  exact ah (r:=(false,aS (vf (eY m (qA o.hrt t) f) (!eY m (qA o.cov t) f)))) (by simp [hx,fb,q2,ca,q1,v]) rfl
 | inside f =>
  have fb:cg 0 (Qa "box") (bG m (.inside f))=zF (ak m f):=rfl
  have q1:=O.bi (qA o.cov t) f
  have q2:=O.bi (qA o.hrt t) f
  exact ah (r:=(false,aS (vf (eF m (qA o.cov t) f) (!eF m (qA o.hrt t) f)))) (by simp [ca,fb,q1,hx,q2,v]) rfl
 | holds f =>
  have fb:cg 0 (Qa "box") (bG m (.holds f))=zF (ak m f):=rfl
  have q1:=O.bi f (qA o.cov t)
  have q2:=O.bi f (qA o.hrt t)
  exact ah (r:=(false,aS (vf (eF m f (qA o.hrt t)) (!eF m f (qA o.cov t))))) (by simp [fb,hx,q2,ca,q1,v]) rfl
 | near f r =>
  have fb:cg 0 (Qa "box") (bG m (.near f r))=zF (ak m f):=rfl
  have fc:cg 1 (Qa "far") (bG m (.near f r))=zF (.int r):=rfl
  have q1:=O.bg (qA o.cov t) f (λj=>oU ok.cov ht j) λj=>(hok j).b
  have q2:=O.bg (qA o.hrt t) f (λj=>oU ok.hrt ht j) λj=>(hok j).b
  have e:decide (r<dg m (qA o.cov t) f)=!decide (dg m (qA o.cov t) f<=r):=by
   by_cases h:dg m (qA o.cov t) f<=r
   ·rw [Qk h,Qj (by omega)];rfl
   ·rw [Qj h,Qk (by omega)];rfl
  show af call [zF (bG m (.near f r)),zF (aI m o),zF (.int t),none,none] f_Near_verdict.body=_
  refine aF (false,.int (dg m (qA o.hrt t) f)) (by simp [hx,fb,q2]) ?_
  refine aF (false,.int (dg m (qA o.cov t) f)) (by simp [ca,fb,q1]) ?_
  exact ah (r:=(false,aS (vf (decide (dg m (qA o.hrt t) f<=r)) (!decide (dg m (qA o.cov t) f<=r))))) (by simp [fc,e,v]) rfl
 | marked k =>
  have fb:cg 0 (Qa "marks") (bG m (.marked k))=zF (.int (k:Int)):=rfl
  have q1:=O.he o.so k
  have q2:=O.he o.ev k
  exact ah (r:=(false,aS (vf (decide (((o.ev &&& k:Nat):Int)=(k:Int))) (!decide (((o.so &&& k:Nat):Int)=(k:Int)))))) (by simp [ev,fb,q2,so,q1,v]) rfl
 | touched k =>
  have fb:cg 0 (Qa "marks") (bG m (.touched k))=zF (.int (k:Int)):=rfl
  have q1:=O.ho o.so k
  have q2:=O.ho o.ev k
  exact ah (r:=(false,aS (vf (!decide (((o.ev &&& k:Nat):Int)=0)) (!(!decide (((o.so &&& k:Nat):Int)=0)))))) (by simp [ev,fb,q2,so,q1,v]) rfl
 | crosses f a b =>
  have fb:cg 0 (Qa "box") (bG m (.crosses f a b))=zF (ak m f):=rfl
  have fc:cg 1 (Qa "first") (bG m (.crosses f a b))=zF (.int a):=rfl
  have fd:cg 2 (Qa "last") (bG m (.crosses f a b))=zF (.int b):=rfl
  have q1:=O.cr o.cov f a b ok.cov
  have q2:=O.cr o.hrt f a b ok.hrt
  show af call [zF (bG m (.crosses f a b)),zF (aI m o),zF (.int t),none,none] f_Crosses_verdict.body=_
  refine aF (false,.bl (dc (Cm m o.hrt f a b))) (by simp [th,fb,fc,fd,q2]) ?_
  refine aF (false,.bl (dc (Cm m o.cov f a b))) (by simp [tc,fb,fc,fd,q1]) ?_
  exact ah (r:=(false,aS (vf (dc (Cm m o.hrt f a b)) (!dc (Cm m o.cov f a b))))) (by simp [v]) rfl
 | worthy w =>
  have fb:cg 0 (Qa "least") (bG m (.worthy w))=zF (.int w):=rfl
  have e:decide (o.hi<w)=!decide (w<=o.hi):=by
   by_cases h:w<=o.hi
   ·rw [Qk h,Qj (by omega)];rfl
   ·rw [Qj h,Qk (by omega)];rfl
  exact ah (r:=(false,aS (vf (decide (w<=o.lo)) (!decide (w<=o.hi))))) (by simp [lo,fb,hi,e,v]) rfl
theorem xQ (m:Nat) (u:Th):D.tup (bx m λj=>sD (u.sw j))=aT m (aN u):=rfl
def fM (m:Nat) (a:At) (u:Th) (t:Int):Bool:=fD m a (aN u) u.mr u.wo t
structure Ow (call:Nat->List D->Option R) (m:Nat) (u:Th) (t:Int):Prop where
 bm:∀g f:Nat->P2,call 39 [ak m g,ak m f]=zF (.bl (eY m g f))
 bi:∀g f:Nat->P2,call 40 [ak m g,ak m f]=zF (.bl (eF m g f))
 bg:∀g f:Nat->P2,(∀j,eH (g j))->(∀j,eH (f j))->call 41 [ak m g,ak m f]=zF (.int (dg m g f))
 sw:call 9 [au m u]=zF (aT m (aN u))
 mr:call 10 [au m u]=zF (.int (u.mr:Int))
 wo:call 11 [au m u]=zF (.int u.wo)
 tb:call 12 [au m u,.int t]=zF (ak m (qA (aN u) t))
 he:∀x k:Nat,call 48 [.int (x:Int),.int (k:Int)]=zF (.bl (decide (((x &&& k:Nat):Int)=(k:Int))))
 ho:∀x k:Nat,call 49 [.int (x:Int),.int (k:Int)]=zF (.bl (!decide (((x &&& k:Nat):Int)=0)))
 cr:∀(c:Fr) (f:Nat->P2) (a b:Int),i6 c->call 50 [aT m c,ak m f,.int a,.int b]=zF (.bl (dc (Cm m c f a b)))
theorem jg {u:Th}(h:bM u):i6 (aN u):=λj=>⟨(h.1 j).1,(h.1 j).2.1,(h.1 j).2.2,(h.1 j).2.2⟩
theorem qLS (m:Nat) (a:At) (ha:gJ a) (u:Th) (hu:bM u) (t:Int) (ht:0<=t/\t<=10^15) (O:Ow call m u t) :
  af call [zF (bG m a),zF (au m u),zF (.int t)] (atC a).body=some (.rt (false,.bl (fM m a u t))):=by
 have tb:=O.tb
 have sw:=O.sw
 have mr:=O.mr
 have wo:=O.wo
 cases a with
 | any=>exact ah rfl rfl
 | meets f =>
  have fb:cg 0 (Qa "box") (bG m (.meets f))=zF (ak m f):=rfl
  have q:=O.bm (qA (aN u) t) f
  exact ah (r:=(false,.bl (eY m (qA (aN u) t) f))) (by simp [tb,fb,q]) rfl
 | inside f =>
  have fb:cg 0 (Qa "box") (bG m (.inside f))=zF (ak m f):=rfl
  have q:=O.bi (qA (aN u) t) f
  exact ah (r:=(false,.bl (eF m (qA (aN u) t) f))) (by simp [tb,fb,q]) rfl
 | holds f =>
  have fb:cg 0 (Qa "box") (bG m (.holds f))=zF (ak m f):=rfl
  have q:=O.bi f (qA (aN u) t)
  exact ah (r:=(false,.bl (eF m f (qA (aN u) t)))) (by simp [fb,tb,q]) rfl
 | near f r =>
  have fb:cg 0 (Qa "box") (bG m (.near f r))=zF (ak m f):=rfl
  have fc:cg 1 (Qa "far") (bG m (.near f r))=zF (.int r):=rfl
  have q:=O.bg (qA (aN u) t) f (λj=>oU (jg hu) ht j) λj=>(ha j).b
  exact ah (r:=(false,.bl (decide (dg m (qA (aN u) t) f<=r)))) (by simp [tb,fb,q,fc]) rfl
 | marked k =>
  have fb:cg 0 (Qa "marks") (bG m (.marked k))=zF (.int (k:Int)):=rfl
  have q:=O.he u.mr k
  exact ah (r:=(false,.bl (decide (((u.mr &&& k:Nat):Int)=(k:Int))))) (by simp [mr,fb,q]) rfl
 | touched k =>
  have fb:cg 0 (Qa "marks") (bG m (.touched k))=zF (.int (k:Int)):=rfl
  have q:=O.ho u.mr k
  exact ah (r:=(false,.bl (!decide (((u.mr &&& k:Nat):Int)=0)))) (by simp [mr,fb,q]) rfl
 | crosses f a b =>
  have fb:cg 0 (Qa "box") (bG m (.crosses f a b))=zF (ak m f):=rfl
  have fc:cg 1 (Qa "first") (bG m (.crosses f a b))=zF (.int a):=rfl
  have fd:cg 2 (Qa "last") (bG m (.crosses f a b))=zF (.int b):=rfl
  have q:=O.cr (aN u) f a b (jg hu)
  exact ah (r:=(false,.bl (dc (Cm m (aN u) f a b)))) (by simp [sw,fb,fc,fd,q]) rfl
 | worthy w =>
  have fb:cg 0 (Qa "least") (bG m (.worthy w))=zF (.int w):=rfl
  exact ah (r:=(false,.bl (decide (w<=u.wo)))) (by simp [wo,fb]) rfl
end
structure Tl (u:Th) (o:To):Prop where
 c:∀j,dC (o.cov j) (aN u j)
 h:∀j,dC (aN u j) (o.hrt j)
 so:u.mr &&& o.so=u.mr
 ev:o.ev &&& u.mr=o.ev
 lo:o.lo<=u.wo
 hi:u.wo<=o.hi
theorem qRC (m:Nat) (a:At) (ha:gJ a) (u:Th) (hu:bM u) (o:To) (ok:ToOk o) (l:Tl u o) (t:Int) (ht:0<=t):(fD m a (jD a o) o.ev o.lo t=true->fM m a u t=true)/\(fM m a u t=true->fD m a (out a o) o.so o.hi t=true):=by
 have k1:ToOk ⟨o.cov,aN u,o.so,u.mr,0,u.wo,o.hi,0⟩:=⟨ok.cov,jg hu,l.c,l.so,l.hi⟩
 have k2:ToOk ⟨aN u,o.hrt,u.mr,o.ev,0,o.lo,u.wo,0⟩:=⟨jg hu,ok.hrt,l.h,l.ev,l.lo⟩
 have q1:=mono m a _ k1 t ht ha
 have q2:=mono m a _ k2 t ht ha
 cases a<;>exact⟨‹_›,‹_›⟩
end Dw.T
namespace Dw.T
open Dw
inductive Wt where
 | atm (a:At)|both (x y:Wt)|eith (x y:Wt)|unl (x:Wt)
def aw (m:Nat):Wt->D
 | .atm a=>bG m a
 | .both x y=>.obj ⟨775,[Qa "one",Qa "two"]⟩ [aw m x,aw m y]
 | .eith x y=>.obj ⟨815,[Qa "one",Qa "two"]⟩ [aw m x,aw m y]
 | .unl x=>.obj ⟨855,[Qa "one"]⟩ [aw m x]
def cH:Wt->Prop
 | .atm a=>gJ a
 | .both x y=>cH x/\cH y
 | .eith x y=>cH x/\cH y
 | .unl x=>cH x
noncomputable def dp:Wt->Nat
 | .atm _=>0
 | .both x y=>max (dp x) (dp y)+1
 | .eith x y=>max (dp x) (dp y)+1
 | .unl x=>dp x+1
def k7:Wd->Wd->Wd
 | .no,_=>.no
 | _,.no=>.no
 | .ev,.ev=>.ev
 | _,_=>.op
def il:Wd->Wd
 | .ev=>.no
 | .no=>.ev
 | .op=>.op
def mO (a b:Wd):Wd:=il (k7 (il a) (il b))
def aR (m:Nat) (o:To) (t:Int):Wt->Wd
 | .atm a=>nS m a o t
 | .both x y=>k7 (aR m o t x) (aR m o t y)
 | .eith x y=>mO (aR m o t x) (aR m o t y)
 | .unl x=>il (aR m o t x)
def fL:Wt->Nat
 | .atm a=>Ci a
 | .both _ _=>92
 | .eith _ _=>94
 | .unl _=>96
def gh:Wt->Nat
 | .atm a=>Cg a
 | .both _ _=>91
 | .eith _ _=>93
 | .unl _=>95
theorem rZ (m:Nat) (w:Wt):∃kn os,aw m w=.obj kn os/\kn.ns.all (λf=>f != Qa "verdict")=true/\TBv.lookup kn.c=some (fL w)/\kn.ns.all (λf=>f != Qa "suits")=true/\TBs.lookup kn.c=some (gh w):=by
 cases w with
 | atm a=>exact⟨(nU m a).1,(nU m a).2,rfl,by cases a<;>rfl,by cases a<;>rfl,by cases a<;>rfl,by cases a<;>rfl⟩
 | both x y=>exact⟨_,_,rfl,rfl,rfl,rfl,rfl⟩
 | eith x y=>exact⟨_,_,rfl,rfl,rfl,rfl,rfl⟩
 | unl x=>exact⟨_,_,rfl,rfl,rfl,rfl,rfl⟩
def bp (m:Nat) (u:Th) (t:Int):Wt->Bool
 | .atm a=>fM m a u t
 | .both x y=>bp m u t x&&bp m u t y
 | .eith x y=>bp m u t x||bp m u t y
 | .unl x=>!bp m u t x
theorem qSN {p q:Wd}{r s:Bool}(a1:p=.ev->r=true) (a2:p=.no->r=false) (b1:q=.ev->s=true) (b2:q=.no->s=false):(k7 p q=.ev->(r&&s)=true)/\(k7 p q=.no->(r&&s)=false):=by
 revert a1 a2 b1 b2
 cases p<;>cases q<;>cases r<;>cases s<;>decide
theorem qRn {p:Wd}{r:Bool}(a1:p=.ev->r=true) (a2:p=.no->r=false):(il p=.ev->(!r)=true)/\(il p=.no->(!r)=false):=by
 revert a1 a2
 cases p<;>cases r<;>decide
theorem qRY {p q:Wd}{r s:Bool}(a1:p=.ev->r=true) (a2:p=.no->r=false) (b1:q=.ev->s=true) (b2:q=.no->s=false):(mO p q=.ev->(r||s)=true)/\(mO p q=.no->(r||s)=false):=by
 revert a1 a2 b1 b2
 cases p<;>cases q<;>cases r<;>cases s<;>decide
theorem j0 (m:Nat) (u:Th) (hu:bM u) (o:To) (ok:ToOk o) (l:Tl u o) (t:Int) (ht:0<=t):∀w,cH w->(aR m o t w=.ev->bp m u t w=true)/\(aR m o t w=.no->bp m u t w=false)
 | .atm a,h=>by
  obtain⟨k1,k2⟩:=qRC m a h u hu o ok l t ht
  show (lD _ _=.ev->fM m a u t=true)/\(lD _ _=.no->fM m a u t=false)
  generalize fD m a (jD a o) o.ev o.lo t=p at *
  generalize fD m a (out a o) o.so o.hi t=q at *
  generalize fM m a u t=r at *
  revert k1 k2
  cases p<;>cases q<;>cases r<;>decide
 | .both x y,h=>by
  obtain⟨a1,a2⟩:=j0 m u hu o ok l t ht x h.1
  obtain⟨b1,b2⟩:=j0 m u hu o ok l t ht y h.2
  exact qSN a1 a2 b1 b2
 | .eith x y,h=>by
  obtain⟨a1,a2⟩:=j0 m u hu o ok l t ht x h.1
  obtain⟨b1,b2⟩:=j0 m u hu o ok l t ht y h.2
  exact qRY a1 a2 b1 b2
 | .unl x,h=>by
  obtain⟨a1,a2⟩:=j0 m u hu o ok l t ht x h
  exact qRn a1 a2
section
variable {call:Nat->List D->Option R}
theorem kf {Z:En}{a:C}{bs:List C}{b:Bool}{m:Nat}{w:Wt}{ys:List D}{r:R}(h:aa call Z a=some (b,aw m w)) (hb:bh call Z bs=some ys) (hc:call (fL w) (aw m w::ys)=some r):aa call Z (.mc a (Qa "verdict") TBv bs)=some r:=by
 obtain⟨kn,os,e,h1,h2,_⟩:=rZ m w
 rw [e] at h hc
 exact wU call Z h h1 h2 hb hc
theorem ka {Z:En}{a:C}{bs:List C}{b:Bool}{m:Nat}{w:Wt}{ys:List D}{r:R}(h:aa call Z a=some (b,aw m w)) (hb:bh call Z bs=some ys) (hc:call (gh w) (aw m w::ys)=some r):aa call Z (.mc a (Qa "suits") TBs bs)=some r:=by
 obtain⟨kn,os,e,_,_,h1,h2⟩:=rZ m w
 rw [e] at h hc
 exact wU call Z h h1 h2 hb hc
theorem fS {Z:En}{a b:C}{x:Bool}{p q:Bool}(ha:aa call Z a=some (x,.bl p)) (hb:aa call Z b=zF (.bl q)):aa call Z (.or a b)=zF (.bl (p||q)):=by
 rw [qRm,ha]
 cases p
 ·exact hb
 ·rfl
theorem qL3 (m:Nat) (x y:Wt) (u:Th) (t:Int) (hx:call (gh x) [aw m x,au m u,.int t]=zF (.bl (bp m u t x))) (hy:call (gh y) [aw m y,au m u,.int t]=zF (.bl (bp m u t y))) :
  af call [zF (aw m (.both x y)),zF (au m u),zF (.int t)] f_Both_suits.body=some (.rt (false,.bl (bp m u t (.both x y)))):=
 ah (r:=(false,.bl (bp m u t x&&bp m u t y))) (j9 (x:=false) (y:=false) (ka (b:=false) (m:=m) (w:=x) (ys:=[au m u,.int t]) rfl rfl hx) (ka (b:=false) (m:=m) (w:=y) (ys:=[au m u,.int t]) rfl rfl hy)) rfl
theorem qL0 (m:Nat) (x y:Wt) (u:Th) (t:Int) (hx:call (gh x) [aw m x,au m u,.int t]=zF (.bl (bp m u t x))) (hy:call (gh y) [aw m y,au m u,.int t]=zF (.bl (bp m u t y))) :
  af call [zF (aw m (.eith x y)),zF (au m u),zF (.int t)] f_Either_suits.body=some (.rt (false,.bl (bp m u t (.eith x y)))):=
 ah (r:=(false,.bl (bp m u t x||bp m u t y))) (fS (x:=false) (ka (b:=false) (m:=m) (w:=x) (ys:=[au m u,.int t]) rfl rfl hx) (ka (b:=false) (m:=m) (w:=y) (ys:=[au m u,.int t]) rfl rfl hy)) rfl
theorem qOf (m:Nat) (x:Wt) (u:Th) (t:Int) (hx:call (gh x) [aw m x,au m u,.int t]=zF (.bl (bp m u t x))) :
  af call [zF (aw m (.unl x)),zF (au m u),zF (.int t)] f_Unless_suits.body=some (.rt (false,.bl (bp m u t (.unl x)))):=by
 have h:=ka (call:=call) (Z:=[zF (aw m (.unl x)),zF (au m u),zF (.int t)]) (a:=.fld V0 0 (Qa "one")) (bs:=[V1,V2]) (b:=false) (m:=m) (w:=x) (ys:=[au m u,.int t]) rfl rfl hx
 exact ah (r:=(false,.bl (!bp m u t x))) (by show aa call _ (.not _)=_;rw [yJ,h]) rfl
theorem qL2 (m:Nat) (x y:Wt) (o:To) (t:Int) (hx:call (fL x) [aw m x,aI m o,.int t]=zF (aS (aR m o t x))) (hy:call (fL y) [aw m y,aI m o,.int t]=zF (aS (aR m o t y))) (v:∀p q:Bool,call 45 [.bl p,.bl q]=zF (aS (vf p q))) :
  af call [zF (aw m (.both x y)),zF (aI m o),zF (.int t),none] f_Both_verdict.body=some (.rt (false,aS (aR m o t (.both x y)))):=by
 have h1:=kf (call:=call) (Z:=[zF (aw m (.both x y)),zF (aI m o),zF (.int t),none]) (a:=.fld V0 0 (Qa "one")) (bs:=[V1,V2]) (b:=false) (m:=m) (w:=x) (ys:=[aI m o,.int t]) rfl rfl hx
 have h2:=kf (call:=call) (Z:=[zF (aw m (.both x y)),zF (aI m o),zF (.int t),none]) (a:=.fld V0 1 (Qa "two")) (bs:=[V1,V2]) (b:=false) (m:=m) (w:=y) (ys:=[aI m o,.int t]) rfl rfl hy
 have l2:2<=lim:=bH (by decide)
 show _=some (Ou.rt (false,aS (k7 (aR m o t x) (aR m o t y))))
 generalize aR m o t x=a at *
 generalize aR m o t y=b at *
 refine aF (false,.tup [aS a,aS b]) (by rw [fU,eC,h1];simp only;rw [eC,h2];simp only [fI];exact Ql l2) ?_
 cases a<;>cases b<;>first
  | exact ah (r:=(false,aS (vf true false))) (v true false) rfl
  | exact ah (r:=(false,aS (vf false true))) (v false true) rfl
  | exact ah (r:=(false,aS (vf false false))) (v false false) rfl
theorem qLZ (m:Nat) (x y:Wt) (o:To) (t:Int) (hx:call (fL x) [aw m x,aI m o,.int t]=zF (aS (aR m o t x))) (hy:call (fL y) [aw m y,aI m o,.int t]=zF (aS (aR m o t y))) (v:∀p q:Bool,call 45 [.bl p,.bl q]=zF (aS (vf p q))) :
  af call [zF (aw m (.eith x y)),zF (aI m o),zF (.int t),none] f_Either_verdict.body=some (.rt (false,aS (aR m o t (.eith x y)))):=by
 have h1:=kf (call:=call) (Z:=[zF (aw m (.eith x y)),zF (aI m o),zF (.int t),none]) (a:=.fld V0 0 (Qa "one")) (bs:=[V1,V2]) (b:=false) (m:=m) (w:=x) (ys:=[aI m o,.int t]) rfl rfl hx
 have h2:=kf (call:=call) (Z:=[zF (aw m (.eith x y)),zF (aI m o),zF (.int t),none]) (a:=.fld V0 1 (Qa "two")) (bs:=[V1,V2]) (b:=false) (m:=m) (w:=y) (ys:=[aI m o,.int t]) rfl rfl hy
 have l2:2<=lim:=bH (by decide)
 show _=some (Ou.rt (false,aS (mO (aR m o t x) (aR m o t y))))
 generalize aR m o t x=a at *
 generalize aR m o t y=b at *
 refine aF (false,.tup [aS a,aS b]) (by rw [fU,eC,h1];simp only;rw [eC,h2];simp only [fI];exact Ql l2) ?_
 cases a<;>cases b<;>first
  | exact ah (r:=(false,aS (vf true false))) (v true false) rfl
  | exact ah (r:=(false,aS (vf false true))) (v false true) rfl
  | exact ah (r:=(false,aS (vf false false))) (v false false) rfl
theorem qOe (m:Nat) (x:Wt) (o:To) (t:Int) (hx:call (fL x) [aw m x,aI m o,.int t]=zF (aS (aR m o t x))) (v:∀p q:Bool,call 45 [.bl p,.bl q]=zF (aS (vf p q))) :
  af call [zF (aw m (.unl x)),zF (aI m o),zF (.int t),none] f_Unless_verdict.body=some (.rt (false,aS (aR m o t (.unl x)))):=by
 have h1:=kf (call:=call) (Z:=[zF (aw m (.unl x)),zF (aI m o),zF (.int t),none]) (a:=.fld V0 0 (Qa "one")) (bs:=[V1,V2]) (b:=false) (m:=m) (w:=x) (ys:=[aI m o,.int t]) rfl rfl hx
 show _=some (Ou.rt (false,aS (il (aR m o t x))))
 generalize aR m o t x=a at *
 refine aF (false,aS a) h1 ?_
 cases a<;>first
  | exact ah (r:=(false,aS (vf true false))) (v true false) rfl
  | exact ah (r:=(false,aS (vf false true))) (v false true) rfl
  | exact ah (r:=(false,aS (vf false false))) (v false false) rfl
end
end Dw.T
namespace Dw.T
open Dw
theorem zh (n m:Nat) (hm:0<m) (c:Fr) (hc:i6 c) (f:Nat->P2) (a b:Int):aC tab (n+4) 50 [aT m c,ak m f,.int a,.int b]=zF (.bl (dc (Cm m c f a b))):=by
 have bl:∀(a b:Q4) (s:fe),(b.2.2.2 - a.2.2.1).natAbs<2^100->aC tab (n+2) 43 [q4 a,q4 b,cz s]=zF (cz (bb a b s)):=λa b s h=>by
  cases s with
  | none=>exact ao rfl rfl rfl (zJ a b none h λn' r a b hr=>ao rfl rfl rfl (zI n' r a b hr))
  | some p=>exact ao rfl rfl rfl (zJ a b (some p) h λn' r a b hr=>ao rfl rfl rfl (zI n' r a b hr))
 refine ao rfl rfl rfl (qL1 m hm c f a b (ao rfl rfl rfl (qLT m f)) ?_)
 refine ao rfl rfl rfl (qHd m c (λj=>d6 (f j)) a b (λj hj=>?_) bl)
 have h:=hc j
 unfold hW at h
 simp only [d6]
 omega
theorem qTz {call:Nat->List D->Option R}(m:Nat) (o:To) (t:Int) (a:call 13 [aI m o]=zF (aT m o.cov)) (b:call 5 [aT m o.cov,.int t]=zF (ak m (qA o.cov t))):af call [zF (aI m o),zF (.int t)] f_cover_at.body=some (.rt (false,ak m (qA o.cov t))):=
 ah (by simp [a,b]) rfl
theorem qTw {call:Nat->List D->Option R}(m:Nat) (o:To) (t:Int) (a:call 14 [aI m o]=zF (aT m o.hrt)) (b:call 5 [aT m o.hrt,.int t]=zF (ak m (qA o.hrt t))):af call [zF (aI m o),zF (.int t)] f_heart_at.body=some (.rt (false,ak m (qA o.hrt t))):=
 ah (by simp [a,b]) rfl
theorem qTt {call:Nat->List D->Option R}(m:Nat) (u:Th) (t:Int) (b:call 5 [aT m (aN u),.int t]=zF (ak m (qA (aN u) t))) (a:call 9 [au m u]=zF (aT m (aN u))):af call [zF (au m u),zF (.int t)] f_thing_box.body=some (.rt (false,ak m (qA (aN u) t))):=
 ah (by simp [a,b]) rfl
theorem qT0 (n m:Nat) (hm:0<m) (o:To) (t:Int) (ht:0<=t/\t<=10^15):On (aC tab (n+4)) m o t:=
 have hR:∀k,aC tab (k+1) 13 [aI m o]=zF (aT m o.cov):=λk=>ao rfl rfl rfl (ah rfl rfl)
 have k0:∀k,aC tab (k+1) 14 [aI m o]=zF (aT m o.hrt):=λk=>ao rfl rfl rfl (ah rfl rfl)
 have fa:∀(k:Nat) (c:Fr),aC tab (k+2) 5 [aT m c,.int t]=zF (ak m (qA c t)):=λk c=>ao rfl rfl rfl (xo m c t λq=>ao rfl rfl rfl (xr q t (by omega)))
 ⟨λg f=>ao rfl rfl rfl (xn m g f λp q=>ao rfl rfl rfl (xb p q)),λg f=>ao rfl rfl rfl (xm m g f λp q=>ao rfl rfl rfl (w9 p q)),
  λg f h1 h2=>ao rfl rfl rfl (xl m g f h1 h2 λp q=>ao rfl rfl rfl (w8 p q)),hR _,k0 _,
  ao rfl rfl rfl (ah rfl rfl),ao rfl rfl rfl (ah rfl rfl),ao rfl rfl rfl (ah rfl rfl),ao rfl rfl rfl (ah rfl rfl),
  λp q=>ao rfl rfl rfl (ow p q),
  ao rfl rfl rfl (qTz m o t (hR _) (fa _ _)),
  ao rfl rfl rfl (qTw m o t (k0 _) (fa _ _)),
  λx k=>ao rfl rfl rfl (xp x k),λx k=>ao rfl rfl rfl (xq x k),λc f a b hc=>zh n m hm c hc f a b⟩
theorem kO (m:Nat) (hm:0<m) (o:To) (ok:ToOk o) (t:Int) (ht:0<=t/\t<=10^15):∀(w:Wt),cH w->∀n,aC tab (n+dp w+5) (fL w) [aw m w,aI m o,.int t]=zF (aS (aR m o t w))
 | .atm a,h,n=>by
  have q:=qG8 m a h o ok t ht (qT0 n m hm o t ht)
  show aC tab (n+0+5) (Ci a) [bG m a,aI m o,.int t]=zF (aS (nS m a o t))
  cases a with
  | any=>exact ao rfl rfl rfl q
  | meets f=>exact ao rfl rfl rfl q
  | inside f=>exact ao rfl rfl rfl q
  | holds f=>exact ao rfl rfl rfl q
  | near f r=>exact ao rfl rfl rfl q
  | marked k=>exact ao rfl rfl rfl q
  | touched k=>exact ao rfl rfl rfl q
  | crosses f a b=>exact ao rfl rfl rfl q
  | worthy w=>exact ao rfl rfl rfl q
 | .both x y,h,n=>by
  have qx:=kO m hm o ok t ht x h.1 (n+(max (dp x) (dp y) - dp x))
  have qy:=kO m hm o ok t ht y h.2 (n+(max (dp x) (dp y) - dp y))
  rw [show n+(max (dp x) (dp y) - dp x)+dp x+5=n+max (dp x) (dp y)+5 by omega] at qx
  rw [show n+(max (dp x) (dp y) - dp y)+dp y+5=n+max (dp x) (dp y)+5 by omega] at qy
  exact ao (n:=n+max (dp x) (dp y)+5) rfl rfl rfl (qL2 m x y o t qx qy λp q=>ao (n:=n+max (dp x) (dp y)+4) rfl rfl rfl (ow p q))
 | .eith x y,h,n=>by
  have qx:=kO m hm o ok t ht x h.1 (n+(max (dp x) (dp y) - dp x))
  have qy:=kO m hm o ok t ht y h.2 (n+(max (dp x) (dp y) - dp y))
  rw [show n+(max (dp x) (dp y) - dp x)+dp x+5=n+max (dp x) (dp y)+5 by omega] at qx
  rw [show n+(max (dp x) (dp y) - dp y)+dp y+5=n+max (dp x) (dp y)+5 by omega] at qy
  exact ao (n:=n+max (dp x) (dp y)+5) rfl rfl rfl (qLZ m x y o t qx qy λp q=>ao (n:=n+max (dp x) (dp y)+4) rfl rfl rfl (ow p q))
 | .unl x,h,n=>by
  have qx:=kO m hm o ok t ht x h n
  exact ao (n:=n+dp x+5) rfl rfl rfl (qOe m x o t qx λp q=>ao (n:=n+dp x+4) rfl rfl rfl (ow p q))
theorem qTZ (n m:Nat) (hm:0<m) (u:Th) (t:Int) (ht:0<=t/\t<=10^15):Ow (aC tab (n+4)) m u t:=
 have hR:∀k,aC tab (k+1) 9 [au m u]=zF (aT m (aN u)):=λk=>ao rfl rfl rfl (ah rfl rfl)
 have fa:∀(k:Nat) (c:Fr),aC tab (k+2) 5 [aT m c,.int t]=zF (ak m (qA c t)):=λk c=>ao rfl rfl rfl (xo m c t λq=>ao rfl rfl rfl (xr q t (by omega)))
 ⟨λg f=>ao rfl rfl rfl (xn m g f λp q=>ao rfl rfl rfl (xb p q)),λg f=>ao rfl rfl rfl (xm m g f λp q=>ao rfl rfl rfl (w9 p q)),
  λg f h1 h2=>ao rfl rfl rfl (xl m g f h1 h2 λp q=>ao rfl rfl rfl (w8 p q)),hR _,ao rfl rfl rfl (ah rfl rfl),ao rfl rfl rfl (ah rfl rfl),
  ao rfl rfl rfl (qTt m u t (fa _ _) (hR _)),
  λx k=>ao rfl rfl rfl (xp x k),λx k=>ao rfl rfl rfl (xq x k),λc f a b hc=>zh n m hm c hc f a b⟩
theorem kJ (m:Nat) (hm:0<m) (u:Th) (hu:bM u) (t:Int) (ht:0<=t/\t<=10^15):∀(w:Wt),cH w->∀n,aC tab (n+dp w+5) (gh w) [aw m w,au m u,.int t]=zF (.bl (bp m u t w))
 | .atm a,h,n=>by
  have q:=qLS m a h u hu t ht (qTZ n m hm u t ht)
  show aC tab (n+0+5) (Cg a) [bG m a,au m u,.int t]=zF (.bl (fM m a u t))
  cases a with
  | any=>exact ao rfl rfl rfl q
  | meets f=>exact ao rfl rfl rfl q
  | inside f=>exact ao rfl rfl rfl q
  | holds f=>exact ao rfl rfl rfl q
  | near f r=>exact ao rfl rfl rfl q
  | marked k=>exact ao rfl rfl rfl q
  | touched k=>exact ao rfl rfl rfl q
  | crosses f a b=>exact ao rfl rfl rfl q
  | worthy w=>exact ao rfl rfl rfl q
 | .both x y,h,n=>by
  have qx:=kJ m hm u hu t ht x h.1 (n+(max (dp x) (dp y) - dp x))
  have qy:=kJ m hm u hu t ht y h.2 (n+(max (dp x) (dp y) - dp y))
  rw [show n+(max (dp x) (dp y) - dp x)+dp x+5=n+max (dp x) (dp y)+5 by omega] at qx
  rw [show n+(max (dp x) (dp y) - dp y)+dp y+5=n+max (dp x) (dp y)+5 by omega] at qy
  exact ao (n:=n+max (dp x) (dp y)+5) rfl rfl rfl (qL3 m x y u t qx qy)
 | .eith x y,h,n=>by
  have qx:=kJ m hm u hu t ht x h.1 (n+(max (dp x) (dp y) - dp x))
  have qy:=kJ m hm u hu t ht y h.2 (n+(max (dp x) (dp y) - dp y))
  rw [show n+(max (dp x) (dp y) - dp x)+dp x+5=n+max (dp x) (dp y)+5 by omega] at qx
  rw [show n+(max (dp x) (dp y) - dp y)+dp y+5=n+max (dp x) (dp y)+5 by omega] at qy
  exact ao (n:=n+max (dp x) (dp y)+5) rfl rfl rfl (qL0 m x y u t qx qy)
 | .unl x,h,n=>ao (n:=n+dp x+5) rfl rfl rfl (qOf m x u t (kJ m hm u hu t ht x h n))
end Dw.T
namespace Dw.T
open Dw
def i4 (c k:Int):Int:=((c * 2+1) * (k * k * 9176023+84127918273645463728191)).fmod mN
def aU (c k n:Int):Int:=(((i4 c k * (i4 c k+5)).fmod mN).fdiv 7).fmod n
theorem cj (c k n:Int) (h:0<n):0<=aU c k n/\aU c k n<n:=rE _ _ h
def Dr (call:Nat->List D->Option R):Prop:=∀c k n:Int,dH c->(0<=k/\k<=10000)->(0<n/\n<2^200)->call 52 [.int c,.int k,.int n]=zF (.int (aU c k n))
abbrev dB:=Int×Int×Int
noncomputable def aH (s:dB):D:=.tup [.int s.1,.int s.2.1,.int s.2.2]
theorem lE (s:dB):aM (aH s) (.int 0)=zF (.int s.1):=rfl
theorem sl1 (s:dB):aM (aH s) (.int 1)=zF (.int s.2.1):=rfl
theorem fN (s:dB):aM (aH s) (.int 2)=zF (.int s.2.2):=rfl
structure SclOk (s:dB):Prop where
 a:1<=s.1/\s.1<=10^28
 b:0<=s.2.1/\s.2.1<=10^14
 c:1<=s.2.2/\s.2.2<=10^15+1
section
variable {call:Nat->List D->Option R}
theorem qOk (c k n:Int) (hc:dH c) (hk:0<=k/\k<=10000) (hn:0<n/\n<2^200):af call [zF (.int c),zF (.int k),zF (.int n),none,none] f_law_draw.body=some (.rt (false,.int (aU c k n))):=by
 have m1:=jZ c 2 (by decide)
 have m2:=ef k k (by omega)
 have kk:0<=k * k/\k * k<=10000 * 10000:=⟨Int.mul_nonneg hk.1 hk.1,Int.mul_le_mul hk.2 hk.2 hk.1 (by decide)⟩
 have m3:=ef (k * k) 9176023 (by omega)
 have v1:=Aq
 have v2:=sL
 have m4:=qT1 (c * 2+1) (k * k * 9176023+84127918273645463728191) (by unfold dH at hc;omega) (by omega)
 have d1:fG 170141183460469231731687303715884105727=true:=by decide
 have dp:fG mN=true:=d1
 have d7:fG 7=true:=by decide
 have dn:fG n=true:=qZ n (by omega) (by omega)
 have b:=rE ((c * 2+1) * (k * k * 9176023+84127918273645463728191)) mN (by decide)
 refine aF (false,.int mN) rfl ?_
 refine aF (false,.int (i4 c k)) (by simp [m1,m2,m3,m4,dp];rfl) ?_
 have b':0<=i4 c k/\i4 c k<170141183460469231731687303715884105727:=b
 have m5:=rB (i4 c k) (i4 c k+5) (by omega) (by omega)
 exact ah (by simp [m5,dp,d7,dn];rfl) rfl
theorem oY {x:Int}(h:0<=x/\x<2):x=0∨x=1:=by omega
theorem mz {x:Int}(h:0<=x/\x<3):x=0∨x=1∨x=2:=by omega
theorem ud (a b:D) (x:Int) (h:0<=x/\x<2):aM (.lst [a,b]) (.int x)=zF (if x=0 then a else b):=by
 rcases oY h with rfl|rfl<;>rfl
theorem t9 (a b c:D) (x:Int) (h:0<=x/\x<3):aM (.lst [a,b,c]) (.int x)=zF (if x=0 then a else if x=1 then b else c):=by
 rcases mz h with rfl|rfl|rfl<;>rfl
theorem qLU (c:Int) (hc:dH c) (R:Dr call):∃s:dB,SclOk s/\af call [zF (.int c)] f_law_scale.body=some (.rt (false,aH s)):=by
 have r:=R c 90 3 hc (by omega) (by omega)
 have b:=cj c 90 3 (by decide)
 have p28:fR 10 28=true:=by decide
 have p14:fR 10 14=true:=by decide
 have p15:fR 10 15=true:=by decide
 have l3:3<=lim:=bH (by decide)
 generalize aU c 90 3=j at r b
 have e:=t9 (aH (1,3,13)) (aH (1,0,2)) (aH (10^(28:Int).toNat,10^(14:Int).toNat,10^(15:Int).toNat+1)) j b
 refine⟨if j=0 then (1,3,13) else if j=1 then (1,0,2) else (10^28,10^14,10^15+1),?_,?_⟩
 ·rcases mz b with rfl|rfl|rfl
  ·exact⟨by decide,by decide,by decide⟩
  ·exact⟨by decide,by decide,by decide⟩
  ·exact⟨by decide,by decide,by decide⟩
 ·refine ah (by simp only [fO,gv,pk,oZ,eC,fU,dQ,fI,d4,f9,Nat.reduceAdd,l3,↓reduceIte,gU,cR,lS,p28,p14,p15,kP,jB,jC,ag,ar,cU,cT,cm,hU,jx,r,oM];exact e) ?_
  rcases mz b with rfl|rfl|rfl<;>rfl
def gi (c:Int) (k:Nat) (s:dB):Int×Int×Int:=
 (aU c (5 * (k:Int)+1) (40 * s.1+1) - 20 * s.1,aU c (5 * (k:Int)+1) (40 * s.1+1) - 20 * s.1+aU c (5 * (k:Int)+2) (6 * s.1+1) * aU c (5 * (k:Int)+3) 2,aU c (5 * (k:Int)+4) (2 * s.2.1+1) - s.2.1)
theorem qRF (c:Int) (k:Nat) (s:dB) (ok:SclOk s):vZ (gi c k s):=by
 have h1:=ok.a
 have h2:=ok.b
 have b1:=cj c (5 * (k:Int)+1) (40 * s.1+1) (by omega)
 have b2:=cj c (5 * (k:Int)+2) (6 * s.1+1) (by omega)
 have b3:=cj c (5 * (k:Int)+3) 2 (by omega)
 have b4:=cj c (5 * (k:Int)+4) (2 * s.2.1+1) (by omega)
 unfold vZ gi
 simp only
 rcases oY b3 with e|e<;>rw [e]<;>omega
theorem qOg (c:Int) (k:Nat) (s:dB) (hc:dH c) (hk:k<=100) (ok:SclOk s) (R:Dr call):af call [zF (.int c),zF (.int (k:Int)),zF (aH s),none,none,none] f_law_side_by.body=some (.rt (false,sD (gi c k s))):=by
 have h1:=ok.a
 have h2:=ok.b
 have m5:∀x:Int,cZ 5 x=true:=λx=>ef 5 x (by decide)
 have m40:∀x:Int,cZ 40 x=true:=λx=>ef 40 x (by decide)
 have m20:∀x:Int,cZ 20 x=true:=λx=>ef 20 x (by decide)
 have m6:∀x:Int,cZ 6 x=true:=λx=>ef 6 x (by decide)
 have m2:∀x:Int,cZ 2 x=true:=λx=>ef 2 x (by decide)
 have r1:=R c (5 * (k:Int)+1) (40 * s.1+1) hc (by omega) (by omega)
 have r2:=R c (5 * (k:Int)+2) (6 * s.1+1) hc (by omega) (by omega)
 have r3:=R c (5 * (k:Int)+3) 2 hc (by omega) (by omega)
 have r4:=R c (5 * (k:Int)+4) (2 * s.2.1+1) hc (by omega) (by omega)
 have b3:=cj c (5 * (k:Int)+3) 2 (by omega)
 have l4:4<=lim:=bH (by decide)
 unfold gi
 generalize aU c (5 * (k:Int)+1) (40 * s.1+1)=x1 at *
 generalize aU c (5 * (k:Int)+2) (6 * s.1+1)=x2 at *
 generalize aU c (5 * (k:Int)+3) 2=x3 at *
 generalize aU c (5 * (k:Int)+4) (2 * s.2.1+1)=x4 at *
 have mx:=jZ x2 x3 (by omega)
 refine aF (false,.int (x1 - 20 * s.1)) (by simp [m5,lE,m40,r1,m20]) ?_
 refine aF (false,.int (x1 - 20 * s.1+x2 * x3)) (by simp [m5,lE,m6,r2,r3,mx]) ?_
 refine aF (false,.int (x4 - s.2.1)) (by simp [m5,sl1,m2,r4]) ?_
 exact ah rfl rfl
theorem qLR (c:Int) (m:Nat) (hm:m<=3) (s:dB) (hc:dH c) (ok:SclOk s) (R:Dr call) (C56:∀k:Nat,k<=100->call 54 [.int c,.int (k:Int),aH s]=zF (sD (gi c k s))) :
  ∃u:Th,bM u/\af call [zF (.int c),zF (.int (m:Int)),zF (aH s),none,none,none] f_law_thing_by.body=some (.rt (false,au m u)):=by
 have p18:fR 10 18=true:=by decide
 have p30:fR 10 30=true:=by decide
 have m2:∀x:Int,cZ 2 x=true:=λx=>ef 2 x (by decide)
 have l2:2<=lim:=bH (by decide)
 have l3:3<=lim:=bH (by decide)
 have l4:4<=lim:=bH (by decide)
 have r22:=R c 22 2 hc (by omega) (by omega)
 have b22:=cj c 22 2 (by decide)
 have r23:=R c 23 65536 hc (by omega) (by omega)
 have b23:=cj c 23 65536 (by decide)
 have r23':=R c 23 8 hc (by omega) (by omega)
 have b23':=cj c 23 8 (by decide)
 have r24:=R c 24 3 hc (by omega) (by omega)
 have b24:=cj c 24 3 (by decide)
 have r25:=R c 25 7 hc (by omega) (by omega)
 have r26:=R c 26 (2 * 10^(30:Int).toNat+1) hc (by omega) (by decide)
 have r27:=R c 27 2 hc (by omega) (by omega)
 have b27:=cj c 27 2 (by decide)
 have r90:=R c 21 90 hc (by omega) (by omega)
 have r91:=R c 21 (10^(18:Int).toNat+1) hc (by omega) (by decide)
 generalize aU c 22 2=x22 at *
 generalize aU c 23 65536=x23 at *
 generalize aU c 23 8=y23 at *
 generalize aU c 24 3=x24 at *
 generalize aU c 25 7=x25 at *
 generalize aU c 26 (2 * 10^(30:Int).toNat+1)=x26 at *
 generalize aU c 27 2=x27 at *
 obtain⟨hd,ehd⟩:∃hd,call 52 [.int c,.int 21,if x22=0 then .int 90 else .int (10^(18:Int).toNat+1)]=zF (.int hd):=by
  rcases oY b22 with e|e
  ·rw [Ql e];exact⟨_,r90⟩
  ·rw [Qm (by omega)];exact⟨_,r91⟩
 obtain⟨mr,hmr,emr⟩:∃mr:Nat,mr<65536/\(if x24=0 then D.int x23 else if x24=1 then .int y23 else .int 65535)=.int (mr:Int):=by
  rcases mz b24 with e|e|e
  ·exact⟨x23.toNat,by omega,by rw [Ql e,nk b23.1]⟩
  ·exact⟨y23.toNat,by omega,by rw [Qm (by omega),Ql e,nk b23'.1]⟩
  ·exact⟨65535,by decide,by rw [Qm (by omega),Qm (by omega)];rfl⟩
 obtain⟨wo,ewo⟩:∃wo,(if x27=0 then D.int (x25 - 3) else .int (x26 - 10^(30:Int).toNat))=.int wo:=by
  rcases oY b27 with e|e
  ·exact⟨_,Ql e⟩
  ·exact⟨_,Qm (by omega)⟩
 have e1:=ud (.int 90) (.int (10^(18:Int).toNat+1)) x22 b22
 have e2:=t9 (.int x23) (.int y23) (.int 65535) x24 b24
 have e3:=ud (.int (x25 - 3)) (.int (x26 - 10^(30:Int).toNat)) x27 b27
 rw [emr] at e2
 rw [ewo] at e3
 refine⟨⟨hd,λj=>gi c j s,mr,wo⟩,⟨λj=>qRF c j s ok,hmr⟩,?_⟩
 refine aF (false,.int hd) (by simp only [jB,jC,ag,ar,cU,cT,cm,hU,dQ,cR,gv,pk,oZ,eC,gU,lS,p18,↓reduceIte,kP,fI,d4,f9,Nat.reduceAdd,l2,jx,r22,e1,ehd]) ?_
 refine aF (false,.int (mr:Int)) (by simp [r23,r23',l3,r24,e2]) ?_
 refine aF (false,.int wo) (by simp only [jh,qr,zAg,zAf,gv,pk,oZ,eC,gU,jB,jC,ag,ar,cU,cT,cm,hU,dQ,cR,jx,r25,tI,lS,p30,↓reduceIte,lR,m2,kP,r26,fI,d4,f9,Nat.reduceAdd,l2,r27,e3]) ?_
 have hc':aa call [zF (.int c),zF (.int (m:Int)),zF (aH s),zF (.int hd),zF (.int (mr:Int)),zF (.int wo)] (.compR (.call 54 [V1,V0,V2]) 1 [0,2] (.one 0) [V1])=zT (.lst (bx m λj=>sD (gi c j s))):=
  pI (Z':=[none,zF (.int c),zF (aH s)]) rfl (lN (by omega)) (by rw [bZ,nq];exact bH (by omega)) rfl (qIF (λj=>sD (gi c j s)) λj hj=>⟨false,by have:=C56 j (by omega);simp [this]⟩)
 have hb:=cQ (AH hc') (show bL .tuple [.lst (bx m λj=>sD (gi c j s))]=zF (.tup (bx m λj=>sD (gi c j s))) from rfl)
 refine ah ?_ rfl
 show aa call [zF (.int c),zF (.int (m:Int)),zF (aH s),zF (.int hd),zF (.int (mr:Int)),zF (.int wo)] (.tup [_,_,_,_])=_
 rw [fU,eC,eC,hb]
 simp [l4]
 rfl
theorem qJs (cs:List Int) (m:Nat) (s:dB) (hl:cs.length<=100) (C57:∀c∈cs,∃u:Th,bM u/\call 55 [.int c,.int (m:Int),aH s]=zF (au m u)) :
  ∃ts:List Th,(∀u∈ts,bM u)/\ts.length<=cs.length/\af call [zF (.lst (cs.map .int)),zF (.int (m:Int)),zF (aH s),none,none,none] f_law_things_by.body=some (.rt (true,.lst (ts.map (au m)))):=by
 obtain⟨Z',h,o4,o5,ts,h1,h2,rfl⟩:=gZ (tg:=.one 4) (body:=wb)
  (λk Z=>∃(o4 o5:Option R) (ts:List Th),(∀u∈ts,bM u)/\ts.length<=k/\Z=[zF (.lst (cs.map .int)),zF (.int (m:Int)),zF (aH s),zT (.lst (ts.map (au m))),o4,o5]) (cs.map .int) 0
  [zF (.lst (cs.map .int)),zF (.int (m:Int)),zF (aH s),zT (.lst []),none,none] ⟨none,none,[],by simp,we _,rfl⟩ (by
   rintro k d Z hk ⟨o4,o5,ts,h1,h2,rfl⟩
   rw [ia] at hk
   obtain⟨c,hc,rfl⟩:=zAo.mp hk
   have hk2:k<cs.length:=(zBo.mp hc).1
   obtain⟨u,hu,e⟩:=C57 c (jL hc)
   have hcomp:aa call [zF (.lst (cs.map .int)),zF (.int (m:Int)),zF (aH s),zT (.lst (ts.map (au m))),zF (.int c),zF (au m u)] (.compS (.ix V0 (kI 0)) 1 [] (.one 0) V3)=zT (.lst (ts.map λv=>.int v.hd)):=
    qNE rfl rfl (eN call _ (au m) (λv=>.int v.hd) ts λv _=>⟨_,false,rfl,by simp [th0]⟩)
   have nb:cW (ts.map λv=>D.int v.hd)=true:=by rw [sW];simp
   have hin:eM .notin (.int u.hd) (.lst (ts.map λv=>.int v.hd))=zF (.bl (!(cV (ts.map λv=>.int v.hd) (.int u.hd)))):=by
    show (if (bO 19 (.int u.hd)&&(bF (.int u.hd)&&cW (ts.map λv=>D.int v.hd)))=true then zF (D.bl (if true then !(cV (ts.map λv=>.int v.hd) (.int u.hd)) else cV (ts.map λv=>.int v.hd) (.int u.hd))) else none)=_
    rw [nb]
    rfl
   have ht:aa call [zF (.lst (cs.map .int)),zF (.int (m:Int)),zF (aH s),zT (.lst (ts.map (au m))),zF (.int c),zF (au m u)] (.cmp .notin (.ix V5 (kI 0)) (.compS (.ix V0 (kI 0)) 1 [] (.one 0) V3))=zF (.bl (!(cV (ts.map λv=>.int v.hd) (.int u.hd)))):=
    eg rfl (jv hcomp) hin
   generalize (!(cV (ts.map λv=>D.int v.hd) (.int u.hd)))=b at ht
   cases b with
   | true =>
    refine⟨_,_,rfl,?_,zF (.int c),zF (au m u),ts++[u],λv hv=>?_,by rw [gC];simp;omega,rfl⟩
    ·refine aF _ e ?_
     refine iy ht (yC _ rfl rfl (yx (by rw [bZ];omega)) rfl) ?_
     rw [jM]
     rfl
    ·rcases zBv.mp hv with hv|hv
     ·exact h1 v hv
     ·obtain rfl:=zBu.mp hv
      exact hu
   | false =>
    refine⟨_,_,rfl,?_,zF (.int c),zF (au m u),ts,h1,by omega,rfl⟩
    refine aF _ e ?_
    exact aq ht rfl)
 rw [bZ,ff] at h2
 refine⟨ts,h1,h2,?_⟩
 refine aF _ rfl ?_
 refine kM rfl rfl h ?_
 exact ah rfl rfl
end
end Dw.T
namespace Dw.T
open Dw
def iS (c:Int) (k:Nat) (s:dB):P2:=(aU c (40+2 * (k:Int)) (44 * s.1+1) - 22 * s.1,aU c (40+2 * (k:Int)) (44 * s.1+1) - 22 * s.1+aU c (41+2 * (k:Int)) (24 * s.1+1))
theorem qSD (c:Int) (k:Nat) (s:dB) (ok:SclOk s):BdA (iS c k s):=by
 have h1:=ok.a
 have b1:=cj c (40+2 * (k:Int)) (44 * s.1+1) (by omega)
 have b2:=cj c (41+2 * (k:Int)) (24 * s.1+1) (by omega)
 unfold BdA iS
 simp only
 omega
def mY:At->Prop
 | .crosses _ a b=>b<=a+5
 | _=>True
def aE (m:Nat):Wt->D
 | .atm a=>bI m a
 | .both x y=>.tup [tx "both",aE m x,aE m y]
 | .eith x y=>.tup [tx "either",aE m x,aE m y]
 | .unl x=>.tup [tx "unless",aE m x]
def eR:Wt->Prop
 | .atm a=>mY a
 | .both x y=>eR x/\eR y
 | .eith x y=>eR x/\eR y
 | .unl x=>eR x
section
variable {call:Nat->List D->Option R}
theorem qRr (c:Int) (m:Nat) (hm:m<=3) (s:dB) (hc:dH c) (ok:SclOk s) (dr:Dr call):af call [zF (.int c),zF (.int (m:Int)),zF (aH s),none,none,none] f_law_box_by.body=some (.rt (false,ak m λj=>iS c j s)):=by
 have h1:=ok.a
 have m2:∀x:Int,cZ 2 x=true:=λx=>ef 2 x (by decide)
 have m44:∀x:Int,cZ 44 x=true:=λx=>ef 44 x (by decide)
 have m22:∀x:Int,cZ 22 x=true:=λx=>ef 22 x (by decide)
 have m24:∀x:Int,cZ 24 x=true:=λx=>ef 24 x (by decide)
 have l2:2<=lim:=bH (by decide)
 obtain⟨Z',h,o4,o5,rfl⟩:=tR (call:=call) (tg:=.one 4) (body:=wa)
  (λk Z=>∃o4 o5:Option R,Z=[zF (.int c),zF (.int (m:Int)),zF (aH s),zT (.lst (bx k λj=>bC (iS c j s))),o4,o5]) m (λi=>.int (i:Nat))
  [zF (.int c),zF (.int (m:Int)),zF (aH s),zT (.lst []),none,none] ⟨none,none,rfl⟩ (by
   rintro k Z hk ⟨o4,o5,rfl⟩
   have r1:=dr c (40+2 * (k:Int)) (44 * s.1+1) hc (by omega) (by omega)
   have r2:=dr c (41+2 * (k:Int)) (24 * s.1+1) hc (by omega) (by omega)
   refine⟨_,_,rfl,?_,zF (.int (k:Int)),zF (.int (aU c (40+2 * (k:Int)) (44 * s.1+1) - 22 * s.1)),rfl⟩
   refine aF (false,.int (aU c (40+2 * (k:Int)) (44 * s.1+1) - 22 * s.1)) (by simp [m2,lE,m44,r1,m22]) ?_
   have ap:bx (k+1) (λj=>bC (iS c j s))=bx k (λj=>bC (iS c j s))++[bC (iS c k s)]:=by unfold bx;rw [List.range_succ,jM];rfl
   rw [ap]
   exact yC _ (by simp [m2,lE,m24,r2,l2];rfl) rfl (yx (by simp [bx];omega)) rfl)
 refine aF _ rfl ?_
 refine sI rfl (lN (by omega)) h ?_
 exact ah rfl rfl
theorem pX {x:Int}(l:List D) (k:Nat) (d:D) (h:l[k]?=some d) (e:x=(k:Int)):aM (.lst l) (.int x)=zF d:=by
 subst e
 have hl:=(zBo.mp h).1
 rw [oM]
 unfold fY iP
 rw [z9 _ _ hl]
 simp [h]
theorem qL4 (c:Int) (m:Nat) (s:dB) (hc:dH c) (ok:SclOk s) (dr:Dr call) (C67:call 61 [.int c,.int (m:Int),aH s]=zF (ak m λj=>iS c j s)) :
  ∃a:At,gJ a/\mY a/\af call [zF (.int c),zF (.int (m:Int)),zF (aH s),none,none,none,none] f_law_atom_by.body=some (.rt (false,bI m a)):=by
 have h1:=ok.a
 have h3:=ok.c
 obtain⟨f,hf,C67⟩:∃f:Nat->P2,(∀j,BdA (f j))/\call 61 [.int c,.int (m:Int),aH s]=zF (ak m f):=⟨_,λj=>qSD c j s ok,C67⟩
 have r50:=dr c 50 9 hc (by omega) (by omega)
 have b50:=cj c 50 9 (by decide)
 have l1:1<=lim:=bH (by decide)
 have l2:2<=lim:=bH (by decide)
 have l3:3<=lim:=bH (by decide)
 have l4:4<=lim:=bH (by decide)
 generalize aU c 50 9=w at r50 b50
 obtain⟨a,ha,hx,ea⟩:∃a:At,gJ a/\mY a/\af call [zF (.int c),zF (.int (m:Int)),zF (aH s),zF (.int w),zF (ak m f),none,none] (f_law_atom_by.body.drop 2)=some (.rt (false,bI m a)):=by
  by_cases w0:w=0
  ·exact⟨.any,trivial,trivial,aV (x:=false) (by simp [w0,iR]) (ah rfl rfl) rfl⟩
  have s0:∀z,af call [zF (.int c),zF (.int (m:Int)),zF (aH s),zF (.int w),zF (ak m f),none,none] (f_law_atom_by.body.drop 3)=z->af call [zF (.int c),zF (.int (m:Int)),zF (aH s),zF (.int w),zF (ak m f),none,none] (f_law_atom_by.body.drop 2)=z:=λz hz=>aq (x:=false) (by simp only [fT,pk,ar,eI,cU,cT,cm,de,dQ,cR,lX,iR,w0];simp) hz
  by_cases w3:w<4
  ·have ht:decide (w<4)=true:=Qk w3
   have key:∀(a:At) (k:Nat),bI m a=.tup [[tx "meets",tx "inside",tx "holds"].getD k .non,ak m f]->k<3->w - 1=(k:Int)->af call [zF (.int c),zF (.int (m:Int)),zF (aH s),zF (.int w),zF (ak m f),none,none] (f_law_atom_by.body.drop 3)=some (.rt (false,bI m a)):=λa k e hk hw=>by
    have e3:=pX [tx "meets",tx "inside",tx "holds"] k ([tx "meets",tx "inside",tx "holds"].getD k .non) (by rw [nr,nB (by simpa using hk)];rfl) hw
    rw [e]
    exact aV (x:=false) (by simp [ht]) (ah (by
     show aa call [zF (.int c),zF (.int (m:Int)),zF (aH s),zF (.int w),zF (ak m f),none,none] (.tup [(.ix (.lst [(.k (tx "meets")),(.k (tx "inside")),(.k (tx "holds"))]) (.bin .sub V3 (kI 1))),V4])=_
     simp [l3,e3,l2]) rfl) rfl
   have:w=1∨w=2∨w=3:=by omega
   rcases this with rfl|rfl|rfl
   ·exact⟨.meets f,hf,trivial,s0 _ (key (.meets f) 0 rfl (by decide) rfl)⟩
   ·exact⟨.inside f,hf,trivial,s0 _ (key (.inside f) 1 rfl (by decide) rfl)⟩
   ·exact⟨.holds f,hf,trivial,s0 _ (key (.holds f) 2 rfl (by decide) rfl)⟩
  have s1:∀z,af call [zF (.int c),zF (.int (m:Int)),zF (aH s),zF (.int w),zF (ak m f),none,none] (f_law_atom_by.body.drop 4)=z->af call [zF (.int c),zF (.int (m:Int)),zF (aH s),zF (.int w),zF (ak m f),none,none] (f_law_atom_by.body.drop 2)=z:=λz hz=>s0 z (aq (by simp only [fT,pk,ar,eI,cU,cT,cm,de,dQ,cR,lQ];rw [Qj w3]) hz)
  by_cases w4:w=4
  ·have r51:=dr c 51 201 hc (by omega) (by omega)
   have b51:=cj c 51 201 (by decide)
   have p2:fR s.1 2=true:=Qk ⟨by omega,by decide,by decide⟩
   have m51:=ef (aU c 51 201) (s.1^(2:Int).toNat) (by omega)
   exact⟨.near f (aU c 51 201 * s.1^(2:Int).toNat),hf,trivial,s1 _ (aV (x:=false) (by simp [w4,iR]) (ah (by simp only [fO,fU,eC,dQ,rq,ji,ar,eI,cU,cT,gU,pk,jB,jC,ag,cm,hU,cR,jx,r51,gv,de,lE,lS,p2,↓reduceIte,lR,m51,fI,d4,f9,Nat.reduceAdd,l3];rfl) rfl) rfl)⟩
  have s2:∀z,af call [zF (.int c),zF (.int (m:Int)),zF (aH s),zF (.int w),zF (ak m f),none,none] (f_law_atom_by.body.drop 5)=z->af call [zF (.int c),zF (.int (m:Int)),zF (aH s),zF (.int w),zF (ak m f),none,none] (f_law_atom_by.body.drop 2)=z:=λz hz=>s1 z (aq (x:=false) (by simp only [fT,pk,ar,eI,cU,cT,cm,de,dQ,cR,lX,iR,w4];simp) hz)
  by_cases w5:w=5
  ·have r25:=dr c 25 7 hc (by omega) (by omega)
   have r52:=dr c 52 (2 * 10^(30:Int).toNat+1) hc (by omega) (by decide)
   have p30:fR 10 30=true:=by decide
   have m2:∀x:Int,cZ 2 x=true:=λx=>ef 2 x (by decide)
   have d2:fG 2=true:=by decide
   have bc:=rE c 2 (by decide)
   have e2:=ud (.int (aU c 25 7 - 3)) (.int (aU c 52 (2 * 10^(30:Int).toNat+1) - 10^(30:Int).toNat)) (c.fmod 2) bc
   obtain⟨v,ev⟩:∃v,(if c.fmod 2=0 then D.int (aU c 25 7 - 3) else .int (aU c 52 (2 * 10^(30:Int).toNat+1) - 10^(30:Int).toNat))=.int v:=by
    by_cases q:c.fmod 2=0
    ·exact⟨_,Ql q⟩
    ·exact⟨_,Qm q⟩
   rw [ev] at e2
   exact⟨.worthy v,trivial,trivial,s2 _ (aV (x:=false) (by simp [w5,iR]) (ah (by simp only [fO,fU,eC,dQ,gv,pk,oZ,gU,jB,jC,ag,ar,cU,cT,cm,hU,cR,jx,r25,tI,lS,p30,↓reduceIte,lR,m2,kP,r52,fI,d4,f9,Nat.reduceAdd,l2,de,qKx,d2,e2];rfl) rfl) rfl)⟩
  have s3:∀z,af call [zF (.int c),zF (.int (m:Int)),zF (aH s),zF (.int w),zF (ak m f),none,none] (f_law_atom_by.body.drop 6)=z->af call [zF (.int c),zF (.int (m:Int)),zF (aH s),zF (.int w),zF (ak m f),none,none] (f_law_atom_by.body.drop 2)=z:=λz hz=>s2 z (aq (x:=false) (by simp only [fT,pk,ar,eI,cU,cT,cm,de,dQ,cR,lX,iR,w5];simp) hz)
  by_cases w6:w=6
  ·have r53:=dr c 53 s.2.2 hc (by omega) (by omega)
   have b53:=cj c 53 s.2.2 (by omega)
   have r54:=dr c 54 5 hc (by omega) (by omega)
   have b54:=cj c 54 5 (by decide)
   have p15:fR 10 15=true:=by decide
   generalize aU c 53 s.2.2=x at *
   generalize aU c 54 5=y at *
   have e15:(10:Int)^(15:Int).toNat=10^15:=rfl
   refine⟨.crosses f x (min (10^(15:Int).toNat) (x+y)),⟨hf,by omega,by rw [e15];omega⟩,by show min (10^(15:Int).toNat) (x+y)<=x+5;rw [e15];omega,s3 _ (aV (x:=false) (by simp [w6,iR]) ?_ rfl)⟩
   refine aF (false,.int x) (by simp [fN,r53]) ?_
   exact ah (by simp [p15,r54,l4];rfl) rfl
  have s4:∀z,af call [zF (.int c),zF (.int (m:Int)),zF (aH s),zF (.int w),zF (ak m f),none,none] (f_law_atom_by.body.drop 7)=z->af call [zF (.int c),zF (.int (m:Int)),zF (aH s),zF (.int w),zF (ak m f),none,none] (f_law_atom_by.body.drop 2)=z:=λz hz=>s3 z (aq (x:=false) (by simp only [fT,pk,ar,eI,cU,cT,cm,de,dQ,cR,lX,iR,w6];simp) hz)
  have r55:=dr c 55 8 hc (by omega) (by omega)
  have b55:=cj c 55 8 (by decide)
  have r56:=dr c 56 65536 hc (by omega) (by omega)
  have b56:=cj c 56 65536 (by decide)
  have r57:=dr c 57 3 hc (by omega) (by omega)
  have b57:=cj c 57 3 (by decide)
  generalize aU c 55 8=x at *
  generalize aU c 56 65536=y at *
  generalize aU c 57 3=q at *
  have e3:=t9 (.int x) (.int y) (.int 0) q b57
  obtain⟨k,ek⟩:∃k:Nat,(if q=0 then D.int x else if q=1 then .int y else .int 0)=.int (k:Int):=by
   rcases mz b57 with e|e|e
   ·exact⟨x.toNat,by rw [Ql e,nk b55.1]⟩
   ·exact⟨y.toNat,by rw [Qm (by omega),Ql e,nk b56.1]⟩
   ·exact⟨0,by rw [Qm (by omega),Qm (by omega)];rfl⟩
  rw [ek] at e3
  have key:∀(a:At) (j:Nat),bI m a=.tup [[tx "marked",tx "touched"].getD j .non,.int (k:Int)]->j<2->w - 7=(j:Int)->af call [zF (.int c),zF (.int (m:Int)),zF (aH s),zF (.int w),zF (ak m f),none,none] (f_law_atom_by.body.drop 7)=some (.rt (false,bI m a)):=λa j e hj hw=>by
   have e2:=pX [tx "marked",tx "touched"] j ([tx "marked",tx "touched"].getD j .non) (by rw [nr,nB (by simpa using hj)];rfl) hw
   rw [e]
   refine aF (false,.int (k:Int)) (by simp [r55,r56,l3,r57,e3]) ?_
   refine ah ?_ rfl
   show aa call [zF (.int c),zF (.int (m:Int)),zF (aH s),zF (.int w),zF (ak m f),none,zF (.int (k:Int))] (.tup [(.ix (.lst [(.k (tx "marked")),(.k (tx "touched"))]) (.bin .sub V3 (kI 7))),V6])=_
   simp [l2,e2]
  have:w=7∨w=8:=by omega
  rcases this with rfl|rfl
  ·exact⟨.marked k,trivial,trivial,s4 _ (key (.marked k) 0 rfl (by decide) rfl)⟩
  ·exact⟨.touched k,trivial,trivial,s4 _ (key (.touched k) 1 rfl (by decide) rfl)⟩
 refine⟨a,ha,hx,?_⟩
 refine aF _ r50 ?_
 exact aF _ C67 ea
theorem AY (m:Nat) (a:At):af call [zF (bI m a)] f_law_atom_of.body=some (.rt (false,bG m a)):=by
 cases a with
 | any=>exact aq rfl (aq rfl (aq rfl (aq rfl (aq rfl (aq rfl (aq rfl (aq rfl (ah rfl rfl))))))))
 | meets f=>exact aV rfl (ah rfl rfl) rfl
 | inside f=>exact aq rfl (aV rfl (ah rfl rfl) rfl)
 | holds f=>exact aq rfl (aq rfl (aV rfl (ah rfl rfl) rfl))
 | near f r=>exact aq rfl (aq rfl (aq rfl (aV rfl (ah rfl rfl) rfl)))
 | worthy w=>exact aq rfl (aq rfl (aq rfl (aq rfl (aV rfl (ah rfl rfl) rfl))))
 | crosses f a b=>exact aq rfl (aq rfl (aq rfl (aq rfl (aq rfl (aV rfl (ah rfl rfl) rfl)))))
 | marked k=>exact aq rfl (aq rfl (aq rfl (aq rfl (aq rfl (aq rfl (aV rfl (ah rfl rfl) rfl))))))
 | touched k=>exact aq rfl (aq rfl (aq rfl (aq rfl (aq rfl (aq rfl (aq rfl (aV rfl (ah rfl rfl) rfl)))))))
theorem A0 (m:Nat) (w:Wt) (C70:∀a,call 64 [bI m a]=zF (bG m a)) (C71:∀x,dp x<dp w->call 65 [aE m x]=zF (aw m x)):af call [zF (aE m w)] f_law_want_of.body=some (.rt (false,aw m w)):=by
 cases w with
 | atm a =>
  have sk:∀x:String,(x="both"∨x="either"∨x="unless")->aa call [zF (aE m (.atm a))] (.cmp .eq (.ix V0 (kI 0)) (.k (tx x)))=zF (.bl false):=λx hx=>by
   rcases hx with rfl|rfl|rfl<;>cases a<;>rfl
  refine aq (sk "both" (.inl rfl)) (aq (sk "either" (.inr (.inl rfl))) (aq (sk "unless" (.inr (.inr rfl))) ?_))
  have:=C70 a
  exact ah (r:=(false,bG m a)) (by show aa call [zF (bI m a)] _=_;simp [this]) rfl
 | both x y =>
  have hx:=C71 x (by show dp x<max (dp x) (dp y)+1;omega)
  have hy:=C71 y (by show dp y<max (dp x) (dp y)+1;omega)
  have g1:aM (aE m (.both x y)) (.int 1)=zF (aE m x):=rfl
  have g2:aM (aE m (.both x y)) (.int 2)=zF (aE m y):=rfl
  exact aV rfl (ah (by simp [g1,hx,g2,hy];rfl) rfl) rfl
 | eith x y =>
  have hx:=C71 x (by show dp x<max (dp x) (dp y)+1;omega)
  have hy:=C71 y (by show dp y<max (dp x) (dp y)+1;omega)
  have g1:aM (aE m (.eith x y)) (.int 1)=zF (aE m x):=rfl
  have g2:aM (aE m (.eith x y)) (.int 2)=zF (aE m y):=rfl
  exact aq rfl (aV rfl (ah (by simp [g1,hx,g2,hy];rfl) rfl) rfl)
 | unl x =>
  have hx:=C71 x (by show dp x<dp x+1;omega)
  have g1:aM (aE m (.unl x)) (.int 1)=zF (aE m x):=rfl
  exact aq rfl (aq rfl (aV rfl (ah (by simp [g1,hx];rfl) rfl) rfl))
end
end Dw.T
namespace Dw.T
open Dw
theorem qUh {α:Type}(f:α->D) (x:α) (l:List α):oz ((x::l).map f) (some 1) none=l.map f:=by
 unfold oz
 simp [lj]
theorem BY {p q p' q':Prop} [Decidable p] [Decidable q] [Decidable p'] [Decidable q'] (h:p↔p') (k:q↔q'):(decide p||decide q)=(decide p'||decide q'):=by rw [decide_eq_decide.mpr h,decide_eq_decide.mpr k]
section
variable {call:Nat->List D->Option R}
theorem qLW (c0:Int) (cs:List Int) (m:Nat) (s:dB) (hcs:∀c∈c0::cs,dH c) (dr:Dr call) (C68:∀c,dH c->∃a:At,gJ a/\mY a/\call 62 [.int c,.int (m:Int),aH s]=zF (bI m a)) :
  ∃w:Wt,cH w/\eR w/\dp w<=2 * cs.length/\af call [zF (.lst ((c0::cs).map .int)),zF (.int (m:Int)),zF (aH s),none,none,none] f_law_plain_by.body=some (.rt (false,aE m w)):=by
 have l1:1<=lim:=bH (by decide)
 have l2:2<=lim:=bH (by decide)
 have l3:3<=lim:=bH (by decide)
 obtain⟨a0,h0,x0,e0⟩:=C68 c0 (hcs c0 nF)
 obtain⟨Z',h,o4,o5,w,hw,xw,dw,rfl⟩:=gZ
  (λk Z=>∃(o4 o5:Option R) (w:Wt),cH w/\eR w/\dp w<=2 * k/\Z=[zF (.lst ((c0::cs).map .int)),zF (.int (m:Int)),zF (aH s),zF (aE m w),o4,o5]) (cs.map .int) 0
  [zF (.lst ((c0::cs).map .int)),zF (.int (m:Int)),zF (aH s),zF (aE m (.atm a0)),none,none] ⟨none,none,.atm a0,h0,x0,we _,rfl⟩ (by
   rintro k d Z hk ⟨o4,o5,w,hw,xw,dw,rfl⟩
   rw [ia] at hk
   obtain⟨c,hc,rfl⟩:=zAo.mp hk
   have okc:=hcs c (nC _ (jL hc))
   obtain⟨a,ha,xa,ea⟩:=C68 c okc
   have r:=dr c 58 5 okc (by omega) (by omega)
   have b:=cj c 58 5 (by decide)
   generalize aU c 58 5=y at r b
   have fin:∀z:Wt,cH z->eR z->dp z<=dp w+2->af call [zF (.lst ((c0::cs).map .int)),zF (.int (m:Int)),zF (aH s),zF (aE m w),zF (.int c),zF (.int y)] (zbD.drop 1)=some (.nx [zF (.lst ((c0::cs).map .int)),zF (.int (m:Int)),zF (aH s),zF (aE m z),zF (.int c),zF (.int y)]) ->
     ∃Z1 Z2,cF [zF (.lst ((c0::cs).map .int)),zF (.int (m:Int)),zF (aH s),zF (aE m w),o4,o5] (.one 4) (.int c)=some Z1/\af call Z1 zbD=some (.nx Z2)/\∃(o4 o5:Option R) (w:Wt),cH w/\eR w/\dp w<=2 * (0+k+1)/\Z2=[zF (.lst ((c0::cs).map .int)),zF (.int (m:Int)),zF (aH s),zF (aE m w),o4,o5]:=λz h1 h2 h3 hz =>
    ⟨_,_,rfl,aF _ r hz,_,_,z,h1,h2,by omega,rfl⟩
   by_cases y2:y<2
   ·have ht:decide (y<2)=true:=Qk y2
    have go:∀(z:Wt) (j:Nat),aE m z=.tup [[tx "both",tx "either"].getD j .non,aE m w,bI m a]->j<2->y=(j:Int)->af call [zF (.lst ((c0::cs).map .int)),zF (.int (m:Int)),zF (aH s),zF (aE m w),zF (.int c),zF (.int y)] (zbD.drop 1)=some (.nx [zF (.lst ((c0::cs).map .int)),zF (.int (m:Int)),zF (aH s),zF (aE m z),zF (.int c),zF (.int y)]):=λz j e hj hy=>by
     have e2:=pX [tx "both",tx "either"] j ([tx "both",tx "either"].getD j .non) (by rw [nr,nB (by simpa using hj)];rfl) hy
     rw [e]
     refine iy (x:=false) (by simp [ht]) (aF (false,.tup [[tx "both",tx "either"].getD j .non,aE m w,bI m a]) ?_ rfl) rfl
     show aa call [zF (.lst ((c0::cs).map .int)),zF (.int (m:Int)),zF (aH s),zF (aE m w),zF (.int c),zF (.int y)] (.tup [(.ix (.lst [(.k (tx "both")),(.k (tx "either"))]) V5),V3,(.call 62 [V4,V1,V2])])=_
     simp [l2,e2,ea,l3]
    have:y=0∨y=1:=by omega
    rcases this with rfl|rfl
    ·exact fin (.both w (.atm a)) ⟨hw,ha⟩ ⟨xw,xa⟩ (by show max (dp w) 0+1<=_;omega) (go (.both w (.atm a)) 0 rfl (by decide) rfl)
    ·exact fin (.eith w (.atm a)) ⟨hw,ha⟩ ⟨xw,xa⟩ (by show max (dp w) 0+1<=_;omega) (go (.eith w (.atm a)) 1 rfl (by decide) rfl)
   ·by_cases y4:y<4
    ·have hf:decide (y<2)=false:=Qj y2
     have ht:decide (y<4)=true:=Qk y4
     have go:∀(z:Wt) (j:Nat),aE m z=.tup [[tx "both",tx "either"].getD j .non,.tup [tx "unless",bI m a],aE m w]->j<2->y - 2=(j:Int)->af call [zF (.lst ((c0::cs).map .int)),zF (.int (m:Int)),zF (aH s),zF (aE m w),zF (.int c),zF (.int y)] (zbD.drop 1)=some (.nx [zF (.lst ((c0::cs).map .int)),zF (.int (m:Int)),zF (aH s),zF (aE m z),zF (.int c),zF (.int y)]):=λz j e hj hy=>by
      have e2:=pX [tx "both",tx "either"] j ([tx "both",tx "either"].getD j .non) (by rw [nr,nB (by simpa using hj)];rfl) hy
      rw [e]
      refine lK (x:=false) (by simp [hf]) (iy (x:=false) (by simp [ht]) (aF (false,.tup [[tx "both",tx "either"].getD j .non,.tup [tx "unless",bI m a],aE m w]) ?_ rfl) rfl) rfl
      show aa call [zF (.lst ((c0::cs).map .int)),zF (.int (m:Int)),zF (aH s),zF (aE m w),zF (.int c),zF (.int y)] (.tup [(.ix (.lst [(.k (tx "both")),(.k (tx "either"))]) (.bin .sub V5 (kI 2))),(.tup [(.k (tx "unless")),(.call 62 [V4,V1,V2])]),V3])=_
      simp [l2,e2,ea,l3]
     have:y=2∨y=3:=by omega
     rcases this with rfl|rfl
     ·exact fin (.both (.unl (.atm a)) w) ⟨ha,hw⟩ ⟨xa,xw⟩ (by show max (0+1) (dp w)+1<=_;omega) (go (.both (.unl (.atm a)) w) 0 rfl (by decide) rfl)
     ·exact fin (.eith (.unl (.atm a)) w) ⟨ha,hw⟩ ⟨xa,xw⟩ (by show max (0+1) (dp w)+1<=_;omega) (go (.eith (.unl (.atm a)) w) 1 rfl (by decide) rfl)
    ·refine fin (.unl w) hw xw (by show dp w+1<=_;omega) (lK (by simp only [gD,fT,pk,ar,eI,cU,cT,cm,de,dQ,cR,lQ];rw [Qj y2]) (lK (by simp only [gD,fT,pk,ar,eI,cU,cT,cm,de,dQ,cR,lQ];rw [Qj y4]) (aF _ rfl rfl) rfl) rfl))
 rw [bZ,ff] at dw
 refine⟨w,hw,xw,dw,?_⟩
 have g0:aM (.lst ((c0::cs).map .int)) (.int 0)=zF (.int c0):=by rw [gD,oM,qSe];rfl
 have hn:eM .ne (.lst (D.int c0::cs.map .int)) (.lst [])=zF (.bl true):=by rw [zm];split<;>rfl
 have hcut:oz (D.int c0::cs.map .int) (some 1) none=cs.map .int:=qUh D.int c0 cs
 refine aF _ rfl ?_
 refine iy hn (aF _ (by simp [e0];rfl) rfl) ?_
 refine kM (r:=(true,.lst (cs.map .int))) (by simp [hcut]) rfl h ?_
 exact ah rfl rfl
theorem qTA (m:Nat) (c:Fr) (t:Int) (ht:t.natAbs<2^64):af call [zF (aT m c),zF (.int t)] f_law_at.body=some (.rt (false,ak m (qA c t))):=by
 have hc:=gP (call:=call) (Z:=[zF (aT m c),zF (.int t)]) (e:=(.tup [(.bin .add (.ix V0 (kI 0)) (.bin .mul (.ix V0 (kI 2)) V1)),(.bin .add (.ix V0 (kI 1)) (.bin .mul (.ix V0 (kI 3)) V1))])) (nl:=1) (ks:=[1]) (src:=.v 0) rfl rfl rfl
  (pL (r:=[zF (.int t)]) (λj=>q4 (c j)) (λj=>bC (qA c t j)) λj hj=>⟨false,by
   have m1:=jZ (c j).2.2.1 t ht
   have m2:=jZ (c j).2.2.2 t ht
   simp only [fU,eC,gU,pk,gv,ar,cU,cT,cm,de,dQ,cR,mM,mK,eI,lR,m1,↓reduceIte,kP,mL,mJ,m2,fI,d4,f9,Nat.reduceAdd,wY];rfl⟩)
 exact ah (cQ (jv hc) rfl) rfl
theorem zw {m:Nat}{p:Nat->Bool}:(List.range m).all p=!((List.range m).any λj=>!p j):=by
 rw [List.all_eq_not_any_not]
theorem qLQ (m:Nat) (hm:m<=3) (g f:Nat->P2):af call [zF (ak m g),zF (ak m f),none] f_law_touch.body=some (.rt (false,.bl (eY m g f))):=by
 have hl:bL .len [ak m g]=zF (.int (m:Int)):=by show bL .len [.tup (bx m _)]=_;rw [tH,sR]
 have e1:∀(j:Nat) (o:Option R),j<m->aa call [zF (ak m g),zF (ak m f),zF (.int (j:Int))] (.or (.cmp .gt (.ix (.ix V0 V2) (kI 0)) (.ix (.ix V1 V2) (kI 1))) (.cmp .gt (.ix (.ix V1 V2) (kI 0)) (.ix (.ix V0 V2) (kI 1))))=zF (.bl (!sm (g j) (f j))):=λj o hj=>by
  have g1:=kK g hj
  have g2:=kK f hj
  refine Eq.trans (fS (p:=decide ((f j).2<(g j).1)) (q:=decide ((g j).2<(f j).1)) (x:=false) (by simp [g1,gw,g2,gy]) (by simp [g2,gw,g1,gy])) ?_
  unfold sm
  rw [Bool.not_and,<-decide_not,<-decide_not]
  exact congrArg (λb=>zF (D.bl b)) (BY (by constructor<;>intro h<;>omega) (by constructor<;>intro h<;>omega))
 unfold eY
 rw [zw]
 refine yB (p:=λj=>!sm (g j) (f j)) (ds:=[.int (m:Int)]) (r:=(false,.bl false)) (fun Z=>∃o:Option R,Z=[zF (ak m g),zF (ak m f),o]) (by simp [hl]) (lN (by omega)) ⟨_,rfl⟩ ?_ ?_ ?_ ?_
 ·rintro j hj hp Z ⟨o,rfl⟩
  have hp:(!sm (g j) (f j))=true:=hp
  exact aV (by have:=e1 j o hj;rw [hp] at this;exact this) (ah rfl rfl) rfl
 ·rintro j hj hp Z ⟨o,rfl⟩
  have hp:(!sm (g j) (f j))=false:=hp
  exact⟨_,aq (by have:=e1 j o hj;rw [hp] at this;exact this) rfl,_,rfl⟩
 ·intro h
  rw [h]
  rfl
 ·rintro h Z ⟨o,rfl⟩
  rw [h]
  exact ah rfl rfl
theorem qOi (m:Nat) (hm:m<=3) (g f:Nat->P2):af call [zF (ak m g),zF (ak m f),none] f_law_lies_in.body=some (.rt (false,.bl (eF m g f))):=by
 have hl:bL .len [ak m g]=zF (.int (m:Int)):=by show bL .len [.tup (bx m _)]=_;rw [tH,sR]
 have e1:∀(j:Nat) (o:Option R),j<m->aa call [zF (ak m g),zF (ak m f),zF (.int (j:Int))] (.or (.cmp .lt (.ix (.ix V0 V2) (kI 0)) (.ix (.ix V1 V2) (kI 0))) (.cmp .gt (.ix (.ix V0 V2) (kI 1)) (.ix (.ix V1 V2) (kI 1))))=zF (.bl (!si (g j) (f j))):=λj o hj=>by
  have g1:=kK g hj
  have g2:=kK f hj
  refine Eq.trans (fS (p:=decide ((g j).1<(f j).1)) (q:=decide ((f j).2<(g j).2)) (x:=false) (by simp [g1,gw,g2]) (by simp [g1,gy,g2])) ?_
  unfold si
  rw [Bool.not_and,<-decide_not,<-decide_not]
  exact congrArg (λb=>zF (D.bl b)) (BY (by constructor<;>intro h<;>omega) (by constructor<;>intro h<;>omega))
 unfold eF
 rw [zw]
 refine yB (p:=λj=>!si (g j) (f j)) (ds:=[.int (m:Int)]) (r:=(false,.bl false)) (fun Z=>∃o:Option R,Z=[zF (ak m g),zF (ak m f),o]) (by simp [hl]) (lN (by omega)) ⟨_,rfl⟩ ?_ ?_ ?_ ?_
 ·rintro j hj hp Z ⟨o,rfl⟩
  have hp:(!si (g j) (f j))=true:=hp
  exact aV (by have:=e1 j o hj;rw [hp] at this;exact this) (ah rfl rfl) rfl
 ·rintro j hj hp Z ⟨o,rfl⟩
  have hp:(!si (g j) (f j))=false:=hp
  exact⟨_,aq (by have:=e1 j o hj;rw [hp] at this;exact this) rfl,_,rfl⟩
 ·intro h
  rw [h]
  rfl
 ·rintro h Z ⟨o,rfl⟩
  rw [h]
  exact ah rfl rfl
theorem qLY (m:Nat) (hm:m<=3) (g f:Nat->P2) (hg:∀j,eH (g j)) (hf:∀j,eH (f j)):af call [zF (ak m g),zF (ak m f),none,none,none] f_law_gap_of.body=some (.rt (false,.int (dg m g f))):=by
 have hl:bL .len [ak m g]=zF (.int (m:Int)):=by show bL .len [.tup (bx m _)]=_;rw [tH,sR]
 obtain⟨Z',h,o3,o4,rfl⟩:=tR (call:=call) (tg:=.one 3) (body:=v9)
  (λk Z=>∃o3 o4:Option R,Z=[zF (ak m g),zF (ak m f),zF (.int (dg k g f)),o3,o4]) m (λi=>.int (i:Nat))
  [zF (ak m g),zF (ak m f),zF (.int 0),none,none] ⟨none,none,rfl⟩ (by
   rintro k Z hk ⟨o3,o4,rfl⟩
   have g1:=kK g hk
   have g2:=kK f hk
   have gb:=xS (hg k) (hf k)
   have mm:=rB (gp (g k) (f k)) (gp (g k) (f k)) (by omega) (by omega)
   have e:dg (k+1) g f=dg k g f+gp (g k) (f k) * gp (g k) (f k):=by unfold dg;rw [List.range_succ,jM,List.sum_append];simp
   have hmx:bL .max [.int 0,.int ((g k).1 - (f k).2),.int ((f k).1 - (g k).2)]=zF (.int (gp (g k) (f k))):=by
    show some (false,D.int _)=some (false,_)
    congr 3
    unfold gp
    split<;>split<;>omega
   rw [e]
   refine⟨_,_,rfl,?_,zF (.int (k:Int)),zF (.int (gp (g k) (f k))),rfl⟩
   refine aF (false,.int (gp (g k) (f k))) (by simp [g1,gw,g2,gy,hmx]) ?_
   exact aF (false,.int (dg k g f+gp (g k) (f k) * gp (g k) (f k))) (by simp [mm]) rfl)
 refine aF _ rfl ?_
 refine sI (by simp [hl]) (lN (by omega)) h ?_
 exact ah rfl rfl
end
end Dw.T
namespace Dw.T
open Dw
structure L8 (call:Nat->List D->Option R) (m:Nat):Prop where
 at_:∀(c:Fr) (t:Int),t.natAbs<2^64->call 57 [aT m c,.int t]=zF (ak m (qA c t))
 touch:∀g f:Nat->P2,call 58 [ak m g,ak m f]=zF (.bl (eY m g f))
 lies:∀g f:Nat->P2,call 59 [ak m g,ak m f]=zF (.bl (eF m g f))
 gap:∀g f:Nat->P2,(∀j,eH (g j))->(∀j,eH (f j))->call 60 [ak m g,ak m f]=zF (.int (dg m g f))
theorem qNU (k:Nat) (p:Nat->Bool):bL .any [.lst ((List.range k).map λi=>.bl (p i))]=zF (.bl ((List.range k).any p)):=by
 show (gu _).map _=_
 rw [pJ]
 show zF (D.bl (((List.range k).map p).any id))=_
 rw [List.any_map]
 rfl
section
variable {call:Nat->List D->Option R}
theorem AX (m:Nat) (a:At) (ha:gJ a) (hx:mY a) (u:Th) (hu:bM u) (t:Int) (ht:0<=t/\t<=10^15) (O:L8 call m) :
  af call [zF (bI m a),zF (au m u),zF (.int t),none] f_law_atom_suits.body=some (.rt (false,.bl (fM m a u t))):=by
 have la:=O.at_ (aN u) t (by omega)
 rw [<-xQ] at la
 have hb:=λj=>oU (jg hu) ht j
 have n1:(0:Int)<=(u.mr:Int):=by omega
 refine aF (false,ak m (qA (aN u) t)) (by simp [wA,la]) ?_
 cases a with
 | any=>exact aq rfl (aq rfl (aq rfl (aq rfl (aq rfl (aq rfl (aq rfl (aq rfl (ah rfl rfl))))))))
 | meets f =>
  have q:=O.touch (qA (aN u) t) f
  have g1:aM (bI m (.meets f)) (.int 1)=zF (ak m f):=rfl
  exact aV rfl (ah (r:=(false,.bl (eY m (qA (aN u) t) f))) (by simp [g1,q]) rfl) rfl
 | inside f =>
  have q:=O.lies (qA (aN u) t) f
  have g1:aM (bI m (.inside f)) (.int 1)=zF (ak m f):=rfl
  exact aq rfl (aV rfl (ah (r:=(false,.bl (eF m (qA (aN u) t) f))) (by simp [g1,q]) rfl) rfl)
 | holds f =>
  have q:=O.lies f (qA (aN u) t)
  have g1:aM (bI m (.holds f)) (.int 1)=zF (ak m f):=rfl
  exact aq rfl (aq rfl (aV rfl (ah (r:=(false,.bl (eF m f (qA (aN u) t)))) (by simp [g1,q]) rfl) rfl))
 | near f r =>
  have q:=O.gap (qA (aN u) t) f hb λj=>(ha j).b
  have g1:aM (bI m (.near f r)) (.int 1)=zF (ak m f):=rfl
  have g2:aM (bI m (.near f r)) (.int 2)=zF (.int r):=rfl
  exact aq rfl (aq rfl (aq rfl (aV rfl (ah (r:=(false,.bl (decide (dg m (qA (aN u) t) f<=r)))) (by simp [g1,q,g2]) rfl) rfl)))
 | worthy w =>
  have g1:aM (bI m (.worthy w)) (.int 1)=zF (.int w):=rfl
  exact aq rfl (aq rfl (aq rfl (aq rfl (aV rfl (ah rfl rfl) rfl))))
 | crosses f a b =>
  obtain⟨hf,h1,h2⟩:=ha
  have hx:b<=a+5:=hx
  have g1:aM (bI m (.crosses f a b)) (.int 1)=zF (ak m f):=rfl
  have g2:aM (bI m (.crosses f a b)) (.int 2)=zF (.int a):=rfl
  have g3:aM (bI m (.crosses f a b)) (.int 3)=zF (.int b):=rfl
  have hc:aa call [zF (bI m (.crosses f a b)),zF (au m u),zF (.int t),zF (ak m (qA (aN u) t))] (.compR (.call 58 [(.call 57 [(.ix V1 (kI 1)),V0]),(.ix V2 (kI 1))]) 1 [1,0] (.one 0) [(.ix V0 (kI 2)),(.bin .add (.ix V0 (kI 3)) (kI 1))])=zT (.lst ((List.range (b+1 - a).toNat).map λi=>.bl (eY m (qA (aN u) (a+(i:Nat))) f))):=
   pI (Z':=[none,zF (au m u),zF (bI m (.crosses f a b))]) rfl rfl (by rw [bZ,nq];exact bH (by omega)) rfl
    (eN call _ (λi:Nat=>.int (a+(i:Nat))) (λi=>.bl (eY m (qA (aN u) (a+(i:Nat))) f)) (List.range (b+1 - a).toNat) λi hi=>⟨_,false,rfl,by
     have hi:=zBa.mp hi
     have c1:=O.at_ (aN u) (a+(i:Nat)) (by omega)
     rw [<-xQ] at c1
     have c2:=O.touch (qA (aN u) (a+(i:Nat))) f
     simp [wA,c1,g1,c2]⟩)
  refine aq rfl (aq rfl (aq rfl (aq rfl (aq rfl (aV rfl (ah (r:=(false,.bl (dc (Cm m (aN u) f a b)))) ?_ rfl) rfl)))))
  rw [<-qQl]
  exact cQ (AH hc) (qNU _ _)
 | marked k =>
  have g1:aM (bI m (.marked k)) (.int 1)=zF (.int (k:Int)):=rfl
  have n2:(0:Int)<=(k:Int):=by omega
  exact aq rfl (aq rfl (aq rfl (aq rfl (aq rfl (aq rfl (aV rfl (ah rfl rfl) rfl))))))
 | touched k =>
  have g1:aM (bI m (.touched k)) (.int 1)=zF (.int (k:Int)):=rfl
  have n2:(0:Int)<=(k:Int):=by omega
  exact aq rfl (aq rfl (aq rfl (aq rfl (aq rfl (aq rfl (aq rfl (aV rfl (ah rfl rfl) rfl)))))))
theorem AZ (m:Nat) (w:Wt) (u:Th) (t:Int) (C72:∀a,w=.atm a->call 66 [bI m a,au m u,.int t]=zF (.bl (fM m a u t))) (C73:∀x,dp x<dp w->(cH w->cH x)->(eR w->eR x)->call 67 [aE m x,au m u,.int t]=zF (.bl (bp m u t x))) :
  af call [zF (aE m w),zF (au m u),zF (.int t)] f_law_suits.body=some (.rt (false,.bl (bp m u t w))):=by
 cases w with
 | atm a =>
  have sk:∀x:String,(x="both"∨x="either"∨x="unless")->aa call [zF (aE m (.atm a)),zF (au m u),zF (.int t)] (.cmp .eq (.ix V0 (kI 0)) (.k (tx x)))=zF (.bl false):=λx hx=>by
   rcases hx with rfl|rfl|rfl<;>cases a<;>rfl
  refine aq (sk "both" (.inl rfl)) (aq (sk "either" (.inr (.inl rfl))) (aq (sk "unless" (.inr (.inr rfl))) ?_))
  have:=C72 a rfl
  exact ah (r:=(false,.bl (fM m a u t))) (by show aa call [zF (bI m a),zF (au m u),zF (.int t)] _=_;simp [this]) rfl
 | both x y =>
  have hx:=C73 x (by show dp x<max (dp x) (dp y)+1;omega) (λh=>h.1) (λh=>h.1)
  have hy:=C73 y (by show dp y<max (dp x) (dp y)+1;omega) (λh=>h.2) (λh=>h.2)
  have g1:aM (aE m (.both x y)) (.int 1)=zF (aE m x):=rfl
  have g2:aM (aE m (.both x y)) (.int 2)=zF (aE m y):=rfl
  exact aV rfl (ah (j9 (x:=false) (y:=false) (by simp [g1,hx]) (by simp [g2,hy])) rfl) rfl
 | eith x y =>
  have hx:=C73 x (by show dp x<max (dp x) (dp y)+1;omega) (λh=>h.1) (λh=>h.1)
  have hy:=C73 y (by show dp y<max (dp x) (dp y)+1;omega) (λh=>h.2) (λh=>h.2)
  have g1:aM (aE m (.eith x y)) (.int 1)=zF (aE m x):=rfl
  have g2:aM (aE m (.eith x y)) (.int 2)=zF (aE m y):=rfl
  exact aq rfl (aV rfl (ah (fS (x:=false) (by simp [g1,hx]) (by simp [g2,hy])) rfl) rfl)
 | unl x =>
  have hx:=C73 x (by show dp x<dp x+1;omega) (λh=>h) (λh=>h)
  have g1:aM (aE m (.unl x)) (.int 1)=zF (aE m x):=rfl
  exact aq rfl (aq rfl (aV rfl (ah (r:=(false,.bl (!bp m u t x))) (by simp [g1,hx]) rfl) rfl))
end
theorem l8 (n m:Nat) (hm:m<=3):L8 (aC tab (n+1)) m:=
 ⟨λc t ht=>ao rfl rfl rfl (qTA m c t ht),λg f=>ao rfl rfl rfl (qLQ m hm g f),λg f=>ao rfl rfl rfl (qOi m hm g f),λg f hg hf=>ao rfl rfl rfl (qLY m hm g f hg hf)⟩
theorem oR (m:Nat) (w:Wt) (ds:List D):aO false (aE m w::ds)=zF (aE m w)::aO false ds:=by
 cases w with
 | atm a=>cases a<;>rfl
 | _=>rfl
theorem Ad (m:Nat) (hm:m<=3) (u:Th) (hu:bM u) (t:Int) (ht:0<=t/\t<=10^15):∀(k:Nat) (w:Wt),dp w<=k->cH w->eR w->∀n,aC tab (n+k+3) 67 [aE m w,au m u,.int t]=zF (.bl (bp m u t w))
 | 0,w,hd,h,x,n=>by
  refine ao (n:=n+2) rfl rfl (by show aO false (aE m w::_)++_=_;rw [oR];rfl) (AZ m w u t (λa e=>?_) λy hy _ _=>Qn hy (by omega))
  subst e
  exact ao (n:=n+1) rfl rfl (by cases a<;>rfl) (AX m a h x u hu t ht (l8 n m hm))
 | k+1,w,hd,h,x,n=>by
  refine ao (n:=n+k+3) rfl rfl (by show aO false (aE m w::_)++_=_;rw [oR];rfl) (AZ m w u t (λa e=>?_) λy hy h1 h2=>Ad m hm u hu t ht k y (by omega) (h1 h) (h2 x) n)
  subst e
  exact ao (n:=n+k+2) rfl rfl (by cases a<;>rfl) (AX m a h x u hu t ht (l8 (n+k+1) m hm))
theorem Ae (m:Nat):∀(k:Nat) (w:Wt),dp w<=k->∀n,aC tab (n+k+2) 65 [aE m w]=zF (aw m w)
 | 0,w,hd,n=>by
  refine ao (n:=n+1) rfl rfl (by show aO false (aE m w::_)++_=_;rw [oR];rfl) (A0 m w (λa=>ao (n:=n) rfl rfl (by cases a<;>rfl) (AY m a)) λy hy=>Qn hy (by omega))
 | k+1,w,hd,n=>by
  refine ao (n:=n+k+2) rfl rfl (by show aO false (aE m w::_)++_=_;rw [oR];rfl) (A0 m w (λa=>ao (n:=n+k+1) rfl rfl (by cases a<;>rfl) (AY m a)) λy hy=>Ae m k y (by omega) n)
end Dw.T
namespace Dw.T
open Dw
def jn (a b:Q4):Q4:=(min a.1 b.1,max a.2.1 b.2.1,min a.2.2.1 b.2.2.1,max a.2.2.2 b.2.2.2)
def nw (a b:Q4):Q4:=(max a.1 b.1,min a.2.1 b.2.1,max a.2.2.1 b.2.2.1,min a.2.2.2 b.2.2.2)
def qRP (a b:To):To:=⟨λj=>jn (a.cov j) (b.cov j),λj=>nw (a.hrt j) (b.hrt j),a.so ||| b.so,a.ev &&& b.ev,a.n+b.n,min a.lo b.lo,max a.hi b.hi,a.su+b.su⟩
def dP:Option To->Option To->Option To
 | none,b=>b
 | some a,none=>some a
 | some a,some b=>some (qRP a b)
def aQ (m:Nat):Option To->D
 | none=>.non
 | some o=>aI m o
def cf (u:Th):To:=⟨aN u,aN u,u.mr,u.mr,1,u.wo,u.wo,u.wo⟩
def GT (o:Option To) (ts:List Th):Prop:=match o with
 | none=>ts=[]
 | some o=>ts≠[]/\ToOk o/\∀u∈ts,Tl u o
theorem tG (x:Nat):x &&& x=x:=by apply qg;intro i;simp
theorem qP0 {u:Th}(hu:bM u):GT (some (cf u)) [u]:=by
 have le:∀j,dC (aN u j) (aN u j):=λj=>⟨hX _,hX _,hX _,hX _⟩
 refine⟨by simp,⟨jg hu,jg hu,le,tG _,hX _⟩,λv hv=>?_⟩
 obtain rfl:=zBu.mp hv
 exact⟨le,le,tG _,tG _,hX _,hX _⟩
theorem rP {a x:Nat}(y:Nat) (h:a &&& x=a):a &&& (x ||| y)=a/\a &&& (y ||| x)=a:=by
 constructor
 all_goals
  apply qg
  intro i
  have:=congrArg (λz=>Nat.testBit z i) h
  simp only [Nat.testBit_and,Nat.testBit_or] at this ⊢
  revert this
  cases a.testBit i<;>cases x.testBit i<;>cases y.testBit i<;>simp
theorem rO {a x:Nat}(y:Nat) (h:a &&& x=a):(a &&& y) &&& x=a &&& y/\(y &&& a) &&& x=y &&& a:=by
 constructor
 all_goals
  apply qg
  intro i
  have:=congrArg (λz=>Nat.testBit z i) h
  simp only [Nat.testBit_and] at this ⊢
  revert this
  cases a.testBit i<;>cases x.testBit i<;>cases y.testBit i<;>simp
theorem ze {a b:Option To}{xs ys:List Th}(ha:GT a xs) (hb:GT b ys):GT (dP a b) (xs++ys):=by
 cases a with
 | none =>
  have ha:xs=[]:=ha
  subst ha
  exact hb
 | some a =>
  cases b with
  | none =>
   have hb:ys=[]:=hb
   subst hb
   rw [lh]
   exact ha
  | some b =>
   obtain⟨n1,o1,l1⟩:=ha
   obtain⟨n2,o2,l2⟩:=hb
   refine⟨by simp [n1],⟨λj=>?_,λj=>?_,λj=>?_,?_,?_⟩,λu hu=>?_⟩
   ·have h1:=o1.cov j
    have h2:=o2.cov j
    unfold hW at h1 h2
    show hW (jn (a.cov j) (b.cov j))
    unfold hW jn
    simp only
    omega
   ·have h1:=o1.hrt j
    have h2:=o2.hrt j
    unfold hW at h1 h2
    show hW (nw (a.hrt j) (b.hrt j))
    unfold hW nw
    simp only
    omega
   ·have h1:=o1.le j
    have h2:=o2.le j
    unfold dC at h1 h2
    show dC (jn (a.cov j) (b.cov j)) (nw (a.hrt j) (b.hrt j))
    unfold dC jn nw
    simp only
    omega
   ·exact (rO b.ev (rP b.so o1.mr).1).1
   ·show min a.lo b.lo<=max a.hi b.hi
    have:=o1.wo
    omega
   ·rcases zBv.mp hu with hu|hu
    ·have l:=l1 u hu
     refine⟨λj=>?_,λj=>?_,(rP b.so l.so).1,(rO b.ev l.ev).1,?_,?_⟩
     ·have h:=l.c j
      unfold dC at h
      show dC (jn (a.cov j) (b.cov j)) (aN u j)
      unfold dC jn
      simp only
      omega
     ·have h:=l.h j
      unfold dC at h
      show dC (aN u j) (nw (a.hrt j) (b.hrt j))
      unfold dC nw
      simp only
      omega
     ·show min a.lo b.lo<=u.wo
      have:=l.lo
      omega
     ·show u.wo<=max a.hi b.hi
      have:=l.hi
      omega
    ·have l:=l2 u hu
     refine⟨λj=>?_,λj=>?_,(rP a.so l.so).2,(rO a.ev l.ev).2,?_,?_⟩
     ·have h:=l.c j
      unfold dC at h
      show dC (jn (a.cov j) (b.cov j)) (aN u j)
      unfold dC jn
      simp only
      omega
     ·have h:=l.h j
      unfold dC at h
      show dC (aN u j) (nw (a.hrt j) (b.hrt j))
      unfold dC nw
      simp only
      omega
     ·show min a.lo b.lo<=u.wo
      have:=l.lo
      omega
     ·show u.wo<=max a.hi b.hi
      have:=l.hi
      omega
section
variable {call:Nat->List D->Option R}
theorem qTv (a b:Q4):af call [zF (q4 a),zF (q4 b)] f_side_joined.body=some (.rt (false,q4 (jn a b))):=by
 have l4:4<=lim:=bH (by decide)
 have mn:∀x y:Int,bL .min [.int x,.int y]=zF (.int (min x y)):=λx y=>by show some (false,D.int (if y<x then y else x))=some (false,_);congr 3;split<;>omega
 have mx:∀x y:Int,bL .max [.int x,.int y]=zF (.int (max x y)):=λx y=>by show some (false,D.int (if y > x then y else x))=some (false,_);congr 3;split<;>omega
 exact ah (by simp [mM,mn,mL,mx,mK,mJ,l4];rfl) rfl
theorem qTu (a b:Q4):af call [zF (q4 a),zF (q4 b)] f_side_narrowed.body=some (.rt (false,q4 (nw a b))):=by
 have l4:4<=lim:=bH (by decide)
 have mn:∀x y:Int,bL .min [.int x,.int y]=zF (.int (min x y)):=λx y=>by show some (false,D.int (if y<x then y else x))=some (false,_);congr 3;split<;>omega
 have mx:∀x y:Int,bL .max [.int x,.int y]=zF (.int (max x y)):=λx y=>by show some (false,D.int (if y > x then y else x))=some (false,_);congr 3;split<;>omega
 exact ah (by simp [mM,mx,mL,mn,mK,mJ,l4];rfl) rfl
theorem qTy (m:Nat) (a b:Fr) (C:∀p q:Q4,call 2 [q4 p,q4 q]=zF (q4 (jn p q))):af call [zF (aT m a),zF (aT m b)] f_frames_joined.body=some (.rt (false,aT m λj=>jn (a j) (b j))):=by
 have hc:aa call [zF (aT m a),zF (aT m b)] (.compZ (.call 2 [V0,V1]) 2 [] (.two 0 1) V0 V1)=zT (.lst (bx m λj=>q4 (jn (a j) (b j)))):=by
  refine mh rfl rfl rfl rfl rfl ?_
  rw [o7]
  exact eN call _ _ (λj=>q4 (jn (a j) (b j))) (List.range m) λj _=>⟨_,false,rfl,by have:=C (a j) (b j);simp [this]⟩
 exact ah (cQ (congrArg (Option.map (λx:R=>x.2)) hc) rfl) rfl
theorem qTx (m:Nat) (a b:Fr) (C:∀p q:Q4,call 3 [q4 p,q4 q]=zF (q4 (nw p q))):af call [zF (aT m a),zF (aT m b)] f_frames_narrowed.body=some (.rt (false,aT m λj=>nw (a j) (b j))):=by
 have hc:aa call [zF (aT m a),zF (aT m b)] (.compZ (.call 3 [V0,V1]) 2 [] (.two 0 1) V0 V1)=zT (.lst (bx m λj=>q4 (nw (a j) (b j)))):=by
  refine mh rfl rfl rfl rfl rfl ?_
  rw [o7]
  exact eN call _ _ (λj=>q4 (nw (a j) (b j))) (List.range m) λj _=>⟨_,false,rfl,by have:=C (a j) (b j);simp [this]⟩
 exact ah (cQ (congrArg (Option.map (λx:R=>x.2)) hc) rfl) rfl
theorem qTr (m:Nat) (u:Th) (C9:call 9 [au m u]=zF (aT m (aN u))) (C10:call 10 [au m u]=zF (.int (u.mr:Int))) (C11:call 11 [au m u]=zF (.int u.wo)):af call [zF (au m u),none,none,none] f_thing_told.body=some (.rt (false,aI m (cf u))):=by
 have l8:8<=lim:=bH (by decide)
 refine aF _ C9 ?_
 refine aF _ C10 ?_
 refine aF _ C11 ?_
 exact ah rfl rfl
theorem to4 (m:Nat) (o:To):aM (aI m o) (.int 4)=zF (.int o.n):=rfl
theorem to7 (m:Nat) (o:To):aM (aI m o) (.int 7)=zF (.int o.su):=rfl
theorem qTs (m:Nat) (a b:Option To) (C6:∀c d:Fr,call 6 [aT m c,aT m d]=zF (aT m λj=>jn (c j) (d j))) (C7:∀c d:Fr,call 7 [aT m c,aT m d]=zF (aT m λj=>nw (c j) (d j))) :
  af call [zF (aQ m a),zF (aQ m b)] f_told_poured.body=some (.rt (false,aQ m (dP a b))):=by
 have l8:8<=lim:=bH (by decide)
 cases a with
 | none=>exact aV rfl (ah rfl rfl) rfl
 | some a =>
  cases b with
  | none=>exact aq rfl (aV rfl (ah rfl rfl) rfl)
  | some b =>
   have c6:=C6 a.cov b.cov
   have c7:=C7 a.hrt b.hrt
   have mn:∀x y:Int,bL .min [.int x,.int y]=zF (.int (min x y)):=λx y=>by show some (false,D.int (if y<x then y else x))=some (false,_);congr 3;split<;>omega
   have mx:∀x y:Int,bL .max [.int x,.int y]=zF (.int (max x y)):=λx y=>by show some (false,D.int (if y > x then y else x))=some (false,_);congr 3;split<;>omega
   have hb:fE .bor (.int (a.so:Int)) (.int (b.so:Int))=zF (.int ((a.so ||| b.so:Nat):Int)):=by rw [qKy,Ql ⟨by omega,by omega⟩];rfl
   have ha:fE .band (.int (a.ev:Int)) (.int (b.ev:Int))=zF (.int ((a.ev &&& b.ev:Nat):Int)):=by rw [qI2,Ql ⟨by omega,by omega⟩];rfl
   refine aq rfl (aq rfl ?_)
   refine ah ?_ rfl
   show aa call [zF (aI m a),zF (aI m b)] _=_
   simp [to0,c6,to1,c7,to2,hb,to3,ha,to4,to5,mn,to6,mx,to7,l8]
   rfl
theorem qSO (m:Nat) (a b:Option To):aO false [aQ m a,aQ m b]=[zF (aQ m a),zF (aQ m b)]:=by
 cases a<;>cases b<;>rfl
theorem qRo (m:Nat) (l:List (Option To)) (C20:∀a b,call 20 [aQ m a,aQ m b]=zF (aQ m (dP a b))):af call [zF (.tup (l.map (aQ m))),none,none] f_tolds_poured.body=some (.rt (false,aQ m (l.foldl dP none))):=by
 obtain⟨Z',h,o2,rfl⟩:=gZ (tg:=.one 2) (body:=v8)
  (λk Z=>∃o2:Option R,Z=[zF (.tup (l.map (aQ m))),zF (aQ m ((l.take k).foldl dP none)),o2]) (l.map (aQ m)) 0
  [zF (.tup (l.map (aQ m))),zF .non,none] ⟨none,rfl⟩ (by
   rintro k d Z hk ⟨o2,rfl⟩
   rw [ia] at hk
   obtain⟨b,hb,rfl⟩:=zAo.mp hk
   have et:l.take (0+k+1)=l.take (0+k)++[b]:=by rw [ff,List.take_add_one,hb];rfl
   rw [et,List.foldl_append]
   have:=C20 ((l.take (0+k)).foldl dP none) b
   generalize (l.take (0+k)).foldl dP none=a at this
   refine⟨_,_,rfl,?_,zF (aQ m b),rfl⟩
   exact aF _ this rfl)
 rw [bZ,ff,lj (nz _)] at h
 refine aF _ rfl ?_
 refine kM rfl rfl h ?_
 exact ah rfl rfl
end
theorem qUk (n m:Nat) (a b:Option To):aC tab (n+3) 20 [aQ m a,aQ m b]=zF (aQ m (dP a b)):=
 ao (n:=n+2) rfl rfl (by show aO false [aQ m a,aQ m b]++_=_;rw [qSO];rfl) (qTs m a b (λc d=>ao (n:=n+1) rfl rfl rfl (qTy m c d λp q=>ao (n:=n) rfl rfl rfl (qTv p q))) λc d=>ao (n:=n+1) rfl rfl rfl (qTx m c d λp q=>ao (n:=n) rfl rfl rfl (qTu p q)))
theorem qSB (n m:Nat) (l:List (Option To)):aC tab (n+4) 21 [.tup (l.map (aQ m))]=zF (aQ m (l.foldl dP none)):=ao (n:=n+3) rfl rfl rfl (qRo m l λa b=>qUk n m a b)
theorem qUj (n m:Nat) (u:Th):aC tab (n+2) 19 [au m u]=zF (aI m (cf u)):=
 ao (n:=n+1) rfl rfl rfl (qTr m u (ao rfl rfl rfl (ah rfl rfl)) (ao rfl rfl rfl (ah rfl rfl)) (ao rfl rfl rfl (ah rfl rfl)))
end Dw.T
namespace Dw.T
open Dw
inductive Tr where
 | leaf (ts:List Th)|fork (ps:List Tr)
mutual
noncomputable def aA:Tr->List Th
 | .leaf ts=>ts
 | .fork ps=>br ps
noncomputable def br:List Tr->List Th
 | []=>[]
 | p::ps=>aA p++br ps
end
mutual
noncomputable def hg:Tr->Nat
 | .leaf _=>0
 | .fork ps=>jE ps+1
noncomputable def jE:List Tr->Nat
 | []=>0
 | p::ps=>max (hg p) (jE ps)
end
mutual
noncomputable def nd:Tr->Nat
 | .leaf _=>1
 | .fork ps=>fA ps+1
noncomputable def fA:List Tr->Nat
 | []=>0
 | p::ps=>nd p+fA ps
end
mutual
def tl:Tr->Option To
 | .leaf ts=>(ts.map λu=>some (cf u)).foldl dP none
 | .fork ps=>(iZ ps).foldl dP none
def iZ:List Tr->List (Option To)
 | []=>[]
 | p::ps=>tl p::iZ ps
end
mutual
def ax (m:Nat):Tr->D
 | .leaf ts=>.tup [tx "leaf",aQ m (tl (.leaf ts)),.tup (ts.map (au m))]
 | .fork ps=>.tup [tx "fork",aQ m (tl (.fork ps)),.tup (iB m ps)]
def iB (m:Nat):List Tr->List D
 | []=>[]
 | p::ps=>ax m p::iB m ps
end
theorem AG (m:Nat):∀ps,iB m ps=ps.map (ax m)
 | []=>rfl
 | p::ps=>by rw [iB,AG m ps];rfl
theorem tD:∀ps qs,br (ps++qs)=br ps++br qs
 | [],qs=>rfl
 | p::ps,qs=>by rw [zAs,br,br,tD ps qs,ny]
theorem yu {ps:List Tr}{p:Tr}(h:p∈ps):hg p<=jE ps:=by
 induction ps with
 | nil=>cases h
 | cons q ps ih =>
  rw [jE]
  rcases zCb.mp h with rfl|h
  ·omega
  ·have:=ih h
   omega
theorem qLK {ps:List Tr}{p:Tr}{u:Th}(h:p∈ps) (hu:u∈aA p):u∈br ps:=by
 induction ps with
 | nil=>cases h
 | cons q ps ih =>
  rw [br]
  rcases zCb.mp h with rfl|h
  ·exact qo _ hu
  ·exact qp _ (ih h)
theorem zd:∀ts:List Th,(∀u∈ts,bM u)->∀(o:Option To) (xs:List Th),GT o xs->GT ((ts.map λu=>some (cf u)).foldl dP o) (xs++ts)
 | [],_,o,xs,h=>by rw [lh];exact h
 | u::ts,hu,o,xs,h=>by
  have:=zd ts (λv hv=>hu v (nC _ hv)) (dP o (some (cf u))) (xs++[u]) (ze h (qP0 (hu u nF)))
  rw [ny] at this
  exact this
mutual
theorem oK:∀p:Tr,(∀u∈aA p,bM u)->GT (tl p) (aA p)
 | .leaf ts,h=>zd ts h none [] rfl
 | .fork ps,h=>yr ps h none [] rfl
theorem yr:∀ps:List Tr,(∀u∈br ps,bM u)->∀(o:Option To) (xs:List Th),GT o xs->GT ((iZ ps).foldl dP o) (xs++br ps)
 | [],_,o,xs,h=>by rw [br,lh];exact h
 | p::ps,hu,o,xs,h=>by
  rw [br] at hu
  have h1:=oK p λu z=>hu u (qo _ z)
  have:=yr ps (λu z=>hu u (qp _ z)) (dP o (tl p)) (xs++aA p) (ze h h1)
  rw [ny] at this
  rw [br]
  exact this
end
theorem pg1 (m:Nat) (p:Tr):aM (ax m p) (.int 1)=zF (aQ m (tl p)):=by cases p<;>rfl
noncomputable def eZ:Tr->Bool
 | .leaf _=>true
 | .fork _=>false
def jj (m:Nat):Tr->List D
 | .leaf ts=>ts.map (au m)
 | .fork ps=>ps.map (ax m)
theorem pg2 (m:Nat) (p:Tr):aM (ax m p) (.int 2)=zF (.tup (jj m p)):=by
 cases p with
 | leaf ts=>rw [ax];rfl
 | fork ps=>rw [ax,AG];rfl
theorem pd (m:Nat) (p:Tr):∃ds,ax m p=.tup ds:=by cases p<;>exact⟨_,by rw [ax]⟩
theorem gs (m:Nat) (p:Tr) (ds:List D):aO false (ax m p::ds)=zF (ax m p)::aO false ds:=by
 obtain⟨d,e⟩:=pd m p
 rw [e]
 rfl
section
variable {call:Nat->List D->Option R}
theorem qJu (m:Nat) (p:Tr):af call [zF (ax m p)] f_is_leaf.body=some (.rt (false,.bl (eZ p))):=by
 cases p with
 | leaf ts=>exact ah (by rw [ax];rfl) rfl
 | fork ps=>exact ah (by rw [ax];rfl) rfl
theorem qLV (m:Nat) (p:Tr):af call [zF (ax m p)] f_page_told.body=some (.rt (false,aQ m (tl p))):=ah (by have:=pg1 m p;simp [this]) rfl
theorem qJt (m:Nat) (p:Tr):af call [zF (ax m p)] f_page_parts.body=some (.rt (false,.tup (jj m p))):=ah (by have:=pg2 m p;simp [this]) rfl
theorem qLX (m:Nat) (ts:List Th) (C25:call 25 [.tup (ts.map (au m))]=zF (.tup ((ts.map λu=>some (cf u)).map (aQ m)))) (C21:∀l:List (Option To),call 21 [.tup (l.map (aQ m))]=zF (aQ m (l.foldl dP none))) :
  af call [zF (.tup (ts.map (au m)))] f_make_leaf.body=some (.rt (false,ax m (.leaf ts))):=by
 have l3:3<=lim:=bH (by decide)
 have c:=C21 (ts.map λu=>some (cf u))
 rw [ax]
 exact ah (by simp only [fO,fU,eC,dQ,jB,jC,ag,ar,cU,cT,cm,hU,jx,C25,cR,c,rq,ji,fI,d4,f9,Nat.reduceAdd,l3,↓reduceIte];rfl) rfl
theorem qG9 (m:Nat) (ts:List Th) (C19:∀u,call 19 [au m u]=zF (aI m (cf u))):af call [zF (.tup (ts.map (au m)))] f_things_tolds.body=some (.rt (false,.tup ((ts.map λu=>some (cf u)).map (aQ m)))):=by
 have hc:=gP (Z:=[zF (.tup (ts.map (au m)))]) (e:=(.call 19 [V0])) (nl:=1) (ks:=[]) (tg:=.one 0) (src:=.v 0) rfl rfl rfl
  (eN call _ (au m) (λu=>aI m (cf u)) ts λu _=>⟨_,false,rfl,by have:=C19 u;simp [this]⟩)
 rw [iU]
 exact ah (cQ (jv hc) rfl) rfl
theorem qNF {Z:En}{o:BI}{as:List C}{b:Bool}{d:D}{f:Nat}{r:R}(h:aa call Z (.bi o as)=some (b,d)) (hc:call f [d]=some r):aa call Z (.call f [.bi o as])=some r:=by
 rw [lZ,jt]
 show (((aa call Z (.bi o as)).map (λx:R=>x.2)).bind _).bind _=_
 rw [h]
 exact hc
end
theorem qNL (n m:Nat) (ts:List Th):aC tab (n+5) 26 [.tup (ts.map (au m))]=zF (ax m (.leaf ts)):=
 ao (n:=n+4) rfl rfl rfl (qLX m ts (ao (n:=n+3) rfl rfl rfl (qG9 m ts λu=>qUj (n+1) m u)) λl=>qSB n m l)
end Dw.T
namespace Dw.T
open Dw PySem
theorem Ax {α:Type}{l:List α}{k:Nat}{x:α}(h:l[k]?=some x):l.take (k+1)=l.take k++[x]:=by rw [List.take_add_one,h];rfl
theorem qG2 (ps:List Tr) (k:Nat):(br (ps.take k)).length<=(br ps).length:=by
 have:=tD (ps.take k) (ps.drop k)
 rw [qk] at this
 rw [this,gC]
 omega
section
variable {call:Nat->List D->Option R}
theorem yE (m:Nat) (p:Tr) (hl:(aA p).length<=1000) (C22:call 22 [ax m p]=zF (.bl (eZ p))) (C24:call 24 [ax m p]=zF (.tup (jj m p))) (C29:∀q,hg q<hg p->(aA q).length<=1000->call 27 [ax m q]=zF (.tup ((aA q).map (au m)))) :
  af call [zF (ax m p),none,none] f_things_in.body=some (.rt (false,.tup ((aA p).map (au m)))):=by
 cases p with
 | leaf ts=>exact aV C22 (ah C24 rfl) rfl
 | fork ps =>
  have hl:(br ps).length<=1000:=by rw [aA] at hl;exact hl
  obtain⟨Z',h,o2,rfl⟩:=gZ (tg:=.one 2) (body:=v7)
   (λk Z=>∃(o2:Option R),Z=[zF (ax m (.fork ps)),zT (.lst ((br (ps.take k)).map (au m))),o2]) (ps.map (ax m)) 0
   [zF (ax m (.fork ps)),zT (.lst []),none] ⟨none,rfl⟩ (by
    rintro k d Z hk ⟨o2,rfl⟩
    rw [ia] at hk
    obtain⟨q,hq,rfl⟩:=zAo.mp hk
    have hm:=jL hq
    have h1:br (ps.take (0+k+1))=br (ps.take (0+k))++aA q:=by rw [ff,Ax hq,tD];simp [br]
    have h2:=qG2 ps (0+k+1)
    rw [h1,gC] at h2
    have hb:=C29 q (by have:=yu hm;rw [hg];omega) (by omega)
    refine⟨_,_,rfl,?_,zF (ax m q),rfl⟩
    rw [h1,jM]
    rw [dY,sy,show aa call _ (.call 27 [.v 2])=zF (.tup ((aA q).map (au m))) from by simp [hb],cm]
    show ((if _+_<=lim then _ else _):Option Ou).bind _=_
    rw [Ql (bH (by rw [bZ,bZ];omega))]
    rfl)
  rw [bZ,ff,lj (nz _)] at h
  refine aq C22 ?_
  refine aF _ rfl ?_
  refine kM C24 rfl h ?_
  exact ah rfl rfl
def bV (m:Nat) (t:Int) (w:Wt) (ts:List Th):List Th:=ts.filter λu=>bp m u t w
theorem qHa (m:Nat) (t:Int) (w:Wt) (ts:List Th) (C:∀u∈ts,call (gh w) [aw m w,au m u,.int t]=zF (.bl (bp m u t w))) :
  af call [zF (.tup (ts.map (au m))),zF (aw m w),zF (.int t)] f_suiting_in.body=some (.rt (false,.tup ((bV m t w ts).map (au m)))):=by
 have hc:aa call [zF (.tup (ts.map (au m))),zF (aw m w),zF (.int t)] (.compF V0 (.mc V2 (Qa "suits") TBs [V0,V1]) 1 [2,1] (.one 0) V0)=zT (.lst ((bV m t w ts).map (au m))):=by
  rw [Bq]
  show (iN call (.mc V2 (Qa "suits") TBs [V0,V1]) V0 [none,zF (.int t),zF (aw m w)] (.one 0) (ts.map (au m))).bind _=_
  rw [tV (au m) (au m) (λu=>bp m u t w) ts λu hu=>⟨_,rfl,ka rfl rfl (C u hu),λ_=>⟨false,rfl⟩⟩]
  rfl
 exact ah (cQ (congrArg (Option.map (λx:R=>x.2)) hc) rfl) rfl
def cM (m:Nat) (t:Int) (w:Wt) (x:Str) (p:Tr):List Th:=if x=Qa "whole" then aA p else if x=Qa "open"/\eZ p=true then bV m t w (aA p) else []
theorem iK (x:Str) (y:String):eM .eq (.str x) (tx y)=zF (.bl (decide (x=Qa y))):=by
 show some (false,D.bl (x == Qa y))=some (false,_)
 congr 3
theorem qRp (m:Nat) (t:Int) (w:Wt) (x:Str) (p:Tr) (C29:call 27 [ax m p]=zF (.tup ((aA p).map (au m)))) (C22:call 22 [ax m p]=zF (.bl (eZ p))) (C24:call 24 [ax m p]=zF (.tup (jj m p))) (C30:eZ p=true->call 32 [.tup ((aA p).map (au m)),aw m w,.int t]=zF (.tup ((bV m t w (aA p)).map (au m)))) :
  af call [zF (.str x),zF (ax m p),zF (aw m w),zF (.int t)] f_things_of_row.body=some (.rt (false,.tup ((cM m t w x p).map (au m)))):=by
 have e1:aa call [zF (.str x),zF (ax m p),zF (aw m w),zF (.int t)] (.cmp .eq V0 (.k (tx "whole")))=zF (.bl (decide (x=Qa "whole"))):=eg rfl rfl (iK x "whole")
 have e2:aa call [zF (.str x),zF (ax m p),zF (aw m w),zF (.int t)] (.and (.cmp .eq V0 (.k (tx "open"))) (.call 22 [V1]))=zF (.bl (decide (x=Qa "open")&&eZ p)):=j9 (y:=false) (eg rfl rfl (iK x "open")) C22
 unfold cM
 by_cases h1:x=Qa "whole"
 ·rw [Ql h1]
  rw [Qk h1] at e1
  exact aV e1 (ah C29 rfl) rfl
 ·rw [Qm h1]
  rw [Qj h1] at e1
  refine aq e1 ?_
  by_cases h2:x=Qa "open"/\eZ p=true
  ·rw [Ql h2]
   rw [Qk h2.1,h2.2] at e2
   have c:=C30 h2.2
   have hp:jj m p=(aA p).map (au m):=by
    cases p with
    | leaf ts=>rfl
    | fork ps=>exact Qn h2.2 ni
   rw [hp] at C24
   exact aV e2 (ah (by simp [C24,c]) rfl) rfl
  ·rw [Qm h2]
   have:(decide (x=Qa "open")&&eZ p)=false:=by
    cases h3:eZ p with
    | false=>rw [qr]
    | true=>rw [wt];exact Qj λz=>h2 ⟨z,h3⟩
   rw [this] at e2
   exact aq e2 (ah rfl rfl)
end
end Dw.T
namespace Dw.T
open Dw PySem
abbrev Rw:=List Int×Str
abbrev Rc:=List Int×Str×Tr
noncomputable def ba (p:List Int):D:=.tup (p.map .int)
def dy (r:Rw):D:=.tup [ba r.1,.str r.2]
def gA (m:Nat) (x:Str×Tr):D:=.tup [.str x.1,ax m x.2]
def cA (m:Nat) (x:Rc):D:=.tup [ba x.1,.str x.2.1,ax m x.2.2]
noncomputable def dZ:Str:=Qa "open"
def cov (x:Str×Tr):List Th:=match x.2 with
 | .leaf ts=>ts
 | .fork ps=>if x.1=dZ then [] else br ps
theorem qPy {ps:List Tr}{p:Tr}(h:p∈ps):nd p<=fA ps:=by
 induction ps with
 | nil=>cases h
 | cons q ps ih =>
  rw [fA]
  rcases zCb.mp h with rfl|h
  ·omega
  ·have:=ih h
   omega
theorem A8:∀(ps:List Tr) (k:Nat),fA (ps.take k)<=fA ps
 | [],k=>by rw [List.take_nil];exact aK _
 | p::ps,0=>jN _
 | p::ps,k+1=>by have:=A8 ps k;rw [List.take_succ_cons,fA,fA];omega
section
variable (W:Tr->Str)
mutual
def cu:List Int->Tr->List Rc
 | q,.leaf ts=>[(q,W (.leaf ts),.leaf ts)]
 | q,.fork ps=>(q,W (.fork ps),.fork ps)::if W (.fork ps)=dZ then dh q 0 ps else []
def dh:List Int->Nat->List Tr->List Rc
 | _,_,[]=>[]
 | q,k,p::ps=>cu (q++[(k:Int)]) p++dh q (k+1) ps
end
mutual
theorem yf:∀(q:List Int) (p:Tr),(cu W q p).flatMap (λr=>cov r.2)=aA p
 | q,.leaf ts=>by rw [cu,aA];simp [cov]
 | q,.fork ps=>by
  rw [cu,aA,qQ]
  by_cases h:W (.fork ps)=dZ
  ·rw [Ql h,zo q 0 ps]
   show (if W (.fork ps)=dZ then [] else br ps)++_=_
   rw [Ql h]
   rfl
  ·rw [Qm h]
   show (if W (.fork ps)=dZ then [] else br ps)++_=_
   rw [Qm h]
   exact lh _
theorem zo:∀(q:List Int) (k:Nat) (ps:List Tr),(dh W q k ps).flatMap (λr=>cov r.2)=br ps
 | _,_,[]=>by rw [dh,br];rfl
 | q,k,p::ps=>by rw [dh,br,qu,yf _ p,zo q (k+1) ps]
end
mutual
theorem yg:∀(q:List Int) (p:Tr) (r:Rc),r∈cu W q p->(∀u∈aA r.2.2,u∈aA p)/\hg r.2.2<=hg p/\(aA r.2.2).length<=(aA p).length/\r.2.1=W r.2.2
 | q,.leaf ts,r,h=>by
  rw [cu] at h
  rw [zBu.mp h]
  exact⟨λu hu=>hu,aK _,aK _,rfl⟩
 | q,.fork ps,r,h=>by
  rw [cu] at h
  rcases zCb.mp h with h|h
  ·rw [h]
   exact⟨λu hu=>hu,aK _,aK _,rfl⟩
  ·by_cases e:W (.fork ps)=dZ
   ·rw [Ql e] at h
    obtain⟨h1,h2,h3,h4⟩:=zq q 0 ps r h
    rw [aA,hg]
    exact⟨h1,by omega,h3,h4⟩
   ·rw [Qm e] at h
    cases h
theorem zq:∀(q:List Int) (k:Nat) (ps:List Tr) (r:Rc),r∈dh W q k ps->(∀u∈aA r.2.2,u∈br ps)/\hg r.2.2<=jE ps/\(aA r.2.2).length<=(br ps).length/\r.2.1=W r.2.2
 | _,_,[],r,h=>by rw [dh] at h;cases h
 | q,k,p::ps,r,h=>by
  rw [dh] at h
  rw [br,jE,gC]
  rcases zBv.mp h with h|h
  ·obtain⟨h1,h2,h3,h4⟩:=yg _ p r h
   exact⟨λu hu=>qo _ (h1 u hu),by omega,by omega,h4⟩
  ·obtain⟨h1,h2,h3,h4⟩:=zq q (k+1) ps r h
   exact⟨λu hu=>qp _ (h1 u hu),by omega,by omega,h4⟩
end
mutual
theorem qQi:∀(q:List Int) (p:Tr),(cu W q p).length<=nd p
 | q,.leaf ts=>by rw [cu,nd];exact aK _
 | q,.fork ps=>by
  rw [cu,nd,d4]
  by_cases h:W (.fork ps)=dZ
  ·rw [Ql h];have:=sj q 0 ps;omega
  ·rw [Qm h];show 0+1<=_;omega
theorem sj:∀(q:List Int) (k:Nat) (ps:List Tr),(dh W q k ps).length<=fA ps
 | _,_,[]=>by rw [dh,fA];exact aK _
 | q,k,p::ps=>by have h1:=qQi (q++[(k:Int)]) p;have h2:=sj q (k+1) ps;rw [dh,fA,gC];omega
end
theorem zp (q:List Int):∀(ps:List Tr) (k j:Nat) (p:Tr),ps[j]?=some p->dh W q k (ps.take (j+1))=dh W q k (ps.take j)++cu W (q++[((k+j:Nat):Int)]) p
 | [],_,_,_,h=>by cases h
 | p::ps,k,0,x,h=>by
  cases h
  rw [List.take_succ_cons,List.take_zero,List.take_zero,dh,dh,dh,lh]
  rfl
 | p::ps,k,j+1,x,h=>by
  rw [List.take_succ_cons,List.take_succ_cons,dh,dh,zp q ps (k+1) j x h,ny,show k+1+j=k+(j+1) by omega]
end
theorem yT:∀a b:List Int,gn (a.map .int) (b.map .int)=decide (a=b)
 | [],[]=>rfl
 | [],_::_=>rfl
 | _::_,[]=>rfl
 | x::a,y::b=>by
  show ((x == y)&&gn (a.map .int) (b.map .int))=_
  rw [yT a b]
  by_cases h:x=y<;>by_cases g:a=b<;>simp [h,g]
theorem qMy (n:Nat) (a:List Int):bO (n+1) (ba a)=true:=by
 show iH n (a.map .int)=true
 rw [Be,zBd]
 intro x _
 cases n<;>rfl
theorem AD (a:List Int):bF (ba a)=true:=by
 show cW (a.map .int)=true
 rw [sW,zBd]
 intro x _
 rfl
theorem qKI (q:List Int) (k:Nat) (h:q.length<=1000):fE .add (ba q) (.tup [.int (k:Int)])=zF (ba (q++[(k:Int)])):=by
 cases q with
 | nil=>rfl
 | cons x a =>
  show (if (a.map D.int).length+1+1<=lim then zF (D.tup (D.int x::a.map .int++[.int (k:Int)])) else none)=_
  rw [d4] at h
  rw [Ql (bH (by rw [bZ];omega))]
  simp [ba]
theorem A7:∀ds:List D,dG ds=true↔∀d∈ds,aX d=true
 | []=>⟨λ_ _ h=>(nomatch h),λ_=>rfl⟩
 | d::ds=>by
  show (aX d&&dG ds)=true↔_
  rw [aL,A7 ds]
  simp
theorem pA {α:Type}(f:α->D) (l:List α) (h:∀x∈l,aX (f x)=true):dG (l.map f)=true:=(A7 _).mpr λd hd=>by
 obtain⟨x,hx,rfl⟩:=yaI.mp hd
 exact h x hx
theorem pq (m:Nat) (f:Nat->D) (h:∀j,aX (f j)=true):aX (.tup (bx m f))=true:=pA f (List.range m) λj _=>h j
theorem qPz (m:Nat) (u:Th):aX (au m u)=true:=by
 show (true&&(aX (.tup (bx m λj=>sD (u.sw j)))&&(true&&(true&&true))))=true
 rw [pq m _ λj=>rfl]
 rfl
theorem rH (m:Nat) (o:Option To):aX (aQ m o)=true:=by
 cases o with
 | none=>rfl
 | some o =>
  show (aX (.tup (bx m λj=>q4 (o.cov j)))&&(aX (.tup (bx m λj=>q4 (o.hrt j)))&&true))=true
  rw [pq m _ λj=>rfl,pq m _ λj=>rfl]
  rfl
theorem qPB (q:List Int):aX (ba q)=true:=pA _ _ λ_ _=>rfl
mutual
theorem yz (m:Nat):∀p:Tr,aX (ax m p)=true
 | .leaf ts=>by
  rw [ax]
  show (true&&(aX (aQ m _)&&(dG (ts.map (au m))&&true)))=true
  rw [rH,pA _ _ λu _=>qPz m u]
  rfl
 | .fork ps=>by
  rw [ax]
  show (true&&(aX (aQ m _)&&(dG (iB m ps)&&true)))=true
  rw [rH,zL m ps]
  rfl
theorem zL (m:Nat):∀ps:List Tr,dG (iB m ps)=true
 | []=>rfl
 | p::ps=>by
  rw [iB]
  show (aX (ax m p)&&dG (iB m ps))=true
  rw [yz m p,zL m ps]
  rfl
end
theorem qPA (m:Nat) (r:Rc):aX (cA m r)=true:=by
 show (aX (ba _)&&(true&&(aX (ax m _)&&true)))=true
 rw [qPB,yz]
 rfl
theorem md (m:Nat) (f:Nat->P2):aX (ak m f)=true:=pq m _ λ_=>rfl
theorem pB {kn:Kn}{ds:List D}(h:kn.c<CL) (hd:dG ds=true):aX (.obj kn ds)=true:=by
 show (decide (kn.c<CL)&&dG ds)=true
 rw [Qk h,hd]
 rfl
theorem rG {x y:D}(h:aX x=true) (g:aX y=true):dG [x,y]=true:=by
 show (aX x&&(aX y&&true))=true
 rw [h,g]
 rfl
theorem oX {x:D}(h:aX x=true):dG [x]=true:=by
 show (aX x&&true)=true
 rw [h]
 rfl
theorem kz (m:Nat):∀w:Wt,aX (aw m w)=true
 | .atm a=>by
  cases a<;>refine pB (Nat.le_of_ble_eq_true rfl) ?_
  ·rfl
  ·exact oX (md m _)
  ·exact oX (md m _)
  ·exact oX (md m _)
  ·exact rG (md m _) rfl
  ·rfl
  ·rfl
  ·show (aX (ak m _)&&_)=true
   rw [md]
   rfl
  ·rfl
 | .both x y=>pB (by decide) (rG (kz m x) (kz m y))
 | .eith x y=>pB (by decide) (rG (kz m x) (kz m y))
 | .unl x=>pB (by decide) (oX (kz m x))
end Dw.T
namespace Dw.T
open Dw PySem
theorem sU:∀is:List Int,fx (is.map .int)=some is
 | []=>rfl
 | b::bs=>by
  show (fx (bs.map .int)).map (b::·)=_
  rw [sU bs]
  rfl
def lC:Wd->Str
 | .ev=>Qa "whole"
 | .no=>Qa "shut"
 | .op=>dZ
def wu (m:Nat) (t:Int) (w:Wt):Option To->Str
 | none=>Qa "shut"
 | some o=>lC (aR m o t w)
def ww (m:Nat) (t:Int) (w:Wt) (p:Tr):Str:=wu m t w (tl p)
def fZ (m:Nat) (t:Int) (w:Wt):D:=.obj ⟨CL+97,[]⟩ [.int t,aw m w]
theorem Al:∀(l:List D) (a k:Nat),(cY a l)[k]?=(l[k]?).map λx=>.tup [.int ((a+k:Nat):Int),x]
 | [],a,k=>by rw [cY];rfl
 | x::r,a,0=>rfl
 | x::r,a,k+1=>by
  rw [cY,jY,Al r (a+1) k,jY,show a+1+k=a+(k+1) by omega]
theorem Am:∀(l:List D) (a:Nat),(cY a l).length=l.length
 | [],a=>rfl
 | x::r,a=>by rw [cY,d4,d4,Am r (a+1)]
section
variable {call:Nat->List D->Option R}
theorem qMa {Z:En}{tg:Tg}{a:C}{body rest:List S}{r:R}{its:List D}{Z':En}{z:Option Ou}(h:aa call Z a=some r) (hr:bw r.2=some its) (hf:bE call body tg (cY 0 its) Z=some (.nx Z')) (k:af call Z' rest=z):af call Z (.forE tg a body::rest)=z:=by
 rw [dY,Ao,h,dE,hr,dE,hf]
 exact k
theorem qLP (m:Nat) (t:Int) (w:Wt) (o:Option To) (C:∀o',o=some o'->call (fL w) [aw m w,aI m o',.int t]=zF (aS (aR m o' t w))) :
  af call [zF (aw m w),zF (aQ m o),zF (.int t)] f_want_word.body=some (.rt (false,.str (wu m t w o))):=by
 cases o with
 | none=>exact aV rfl (ah rfl rfl) rfl
 | some o =>
  have hm:aa call [zF (aw m w),zF (aI m o),zF (.int t)] (.mc V0 (Qa "verdict") TBv [V1,V2])=zF (aS (aR m o t w)):=kf rfl rfl (C o rfl)
  refine aq rfl (ah ?_ rfl)
  show aa call [zF (aw m w),zF (aI m o),zF (.int t)] (.tbl _ (.mc V0 (Qa "verdict") TBv [V1,V2]))=zF (.str (lC (aR m o t w)))
  rw [yX,hm]
  cases aR m o t w<;>rfl
theorem Bi (m:Nat) (t:Int) (w:Wt) (q:List Int) (p:Tr) (C22:∀p,call 22 [ax m p]=zF (.bl (eZ p))) (C23:∀p,call 23 [ax m p]=zF (aQ m (tl p))) (C24:∀p,call 24 [ax m p]=zF (.tup (jj m p)))
  (CL1:call 97 [aQ m (tl p),.int t,aw m w]=zF (.str (ww m t w p))) (C31:∀p' q',(∀u∈aA p',u∈aA p)->hg p'<hg p->nd p'<=nd p->q'.length+hg p'<=q.length+hg p->call 29 [ax m p',ba q',fZ m t w]=zT (.lst ((cu (ww m t w) q' p').map (cA m)))) (hq:q.length+hg p<=1000) (hn:nd p<=4000) :
  af call [zF (ax m p),zF (ba q),zF (fZ m t w),none,none,none,none] f_cut_from.body=some (.rt (true,.lst ((cu (ww m t w) q p).map (cA m)))):=by
 have h1:aa call [zF (ax m p),zF (ba q),zF (fZ m t w),none,none,none,none] (.cv 2 (.call 23 [V0]))=zF (.str (ww m t w p)):=by
  rw [yi,show aa call [zF (ax m p),zF (ba q),zF (fZ m t w),none,none,none,none] (.call 23 [V0])=zF (aQ m (tl p)) from C23 p]
  show (if (decide (CL<=CL+97)&&(aX (aQ m (tl p))&&(true&&(aX (aw m w)&&true))))=true then call (CL+97 - CL) [aQ m (tl p),.int t,aw m w] else none)=_
  rw [rH,kz,Ql (by rw [Qk (Nat.le_add_right _ _)];rfl),Nat.add_sub_cancel_left,CL1]
 refine aF _ h1 ?_
 refine aF (true,.lst [cA m (q,ww m t w p,p)]) rfl ?_
 have e1:aa call [zF (ax m p),zF (ba q),zF (fZ m t w),zF (.str (ww m t w p)),zT (.lst [cA m (q,ww m t w p,p)]),none,none] (.and (.cmp .eq V3 (.k (tx "open"))) (.not (.call 22 [V0])))=zF (.bl (decide (ww m t w p=dZ)&&!eZ p)):=
  j9 (y:=false) (eg rfl rfl (iK (ww m t w p) "open")) (by have:=C22 p;simp [this])
 cases p with
 | leaf ts =>
  rw [show eZ (Tr.leaf ts)=true from rfl,Bool.not_true,qr] at e1
  rw [cu]
  exact aq e1 (ah rfl rfl)
 | fork ps =>
  rw [cu]
  by_cases ho:ww m t w (.fork ps)=dZ
  ·rw [show eZ (Tr.fork ps)=false from rfl,Bool.not_false,wt,Qk ho] at e1
   rw [Ql ho]
   have hgf:hg (.fork ps)=jE ps+1:=by rw [hg]
   have hnf:nd (.fork ps)=fA ps+1:=by rw [nd]
   obtain⟨Z',h,o5,o6,rfl⟩:=gZ (call:=call) (tg:=.two 5 6) (body:=[.ext 4 (.call 29 [V6,(.bin .add V1 (.tup [V5])),V2])])
    (λk Z=>∃(o5 o6:Option R),Z=[zF (ax m (.fork ps)),zF (ba q),zF (fZ m t w),zF (.str (ww m t w (.fork ps))),zT (.lst (((q,ww m t w (.fork ps),Tr.fork ps)::dh (ww m t w) q 0 (ps.take k)).map (cA m))),o5,o6]) (cY 0 (ps.map (ax m))) 0
    [zF (ax m (.fork ps)),zF (ba q),zF (fZ m t w),zF (.str (ww m t w (.fork ps))),zT (.lst [cA m (q,ww m t w (.fork ps),.fork ps)]),none,none] ⟨none,none,by rw [List.take_zero,dh];rfl⟩ (by
     rintro k d Z hk ⟨o5,o6,rfl⟩
     rw [Al,ia] at hk
     obtain⟨x,hx,rfl⟩:=zAo.mp hk
     obtain⟨p,hp,rfl⟩:=zAo.mp hx
     have hpm:=jL hp
     have hh:=yu hpm
     have hnp:nd p<=fA ps:=qPy hpm
     have ha:=qKI q (0+k) (by omega)
     have hc:=C31 p (q++[((0+k:Nat):Int)]) (λu hu=>by rw [aA];exact qLK hpm hu) (by omega) (by omega) (by rw [gC,zBn];omega)
     have h2:=zp (ww m t w) q ps 0 k p hp
     have h3:=sj (ww m t w) q 0 (ps.take (k+1))
     have h4:=A8 ps (k+1)
     rw [h2,gC] at h3
     refine⟨[zF (ax m (.fork ps)),zF (ba q),zF (fZ m t w),zF (.str (ww m t w (.fork ps))),zT (.lst (((q,ww m t w (.fork ps),Tr.fork ps)::dh (ww m t w) q 0 (ps.take (0+k))).map (cA m))),zF (.int ((0+k:Nat):Int)),zF (ax m p)],_,rfl,?_,zF (.int ((0+k:Nat):Int)),zF (ax m p),rfl⟩
     rw [show 0+k+1=k+1 by omega,h2,ff]
     rw [ff] at ha hc
     refine yD (ys:=(cu (ww m t w) (q++[((0+k:Nat):Int)]) p).map (cA m)) ?_ rfl (bH (by rw [bZ,bZ,d4];omega)) (by rw [ff,<-jM];rfl)
     rw [ff]
     simp only [jB,jC,ag,ar,eI,cU,cT,cm,hU,de,pk,rq,gU,fU,eC,ji,fI,jx,d4,f9,Nat.reduceAdd,qT4,↓reduceIte,cR,ha]
     exact hc)
   rw [Am,bZ,ff,lj (nz _)] at h
   refine iy e1 (qMa (C24 _) rfl h rfl) ?_
   exact ah rfl rfl
  ·rw [Qj ho,Bool.false_and] at e1
   rw [Qm ho]
   exact aq e1 (ah rfl rfl)
theorem qOd (m:Nat) (t:Int) (w:Wt) (p:Tr) (C31:call 29 [ax m p,ba [],fZ m t w]=zT (.lst ((cu (ww m t w) [] p).map (cA m)))):af call [zF (ax m p),zF (aw m w),zF (.int t)] f_want_cut.body=some (.rt (true,.lst ((cu (ww m t w) [] p).map (cA m)))):=by
 refine ah ?_ rfl
 show ((call 29 [ax m p,ba [],fZ m t w]).bind og)=_
 rw [C31]
 exact Ql (pA _ _ λr _=>qPA m r)
theorem qHb (m:Nat) (l:List Rc):af call [zF (.lst (l.map (cA m)))] f_paper_of.body=some (.rt (false,.tup (l.map λr=>dy (r.1,r.2.1)))):=by
 have hc:=gP (call:=call) (Z:=[zF (.lst (l.map (cA m)))]) (e:=(.tup [V0,V1])) (nl:=3) (ks:=[]) (tg:=.many [0,1,2]) (src:=V0) rfl rfl rfl
  (eN call _ (cA m) (λr=>dy (r.1,r.2.1)) l λr _=>⟨_,false,rfl,rfl⟩)
 exact ah (cQ (jv hc) rfl) rfl
theorem qHf (m:Nat) (t:Int) (w:Wt) (l:List (Str×Tr)) (hl:(l.flatMap λx=>cM m t w x.1 x.2).length<64) (C8:∀u,call 8 [au m u]=zF (.int u.hd)) (C31:∀x∈l,call 33 [.str x.1,ax m x.2,aw m w,.int t]=zF (.tup ((cM m t w x.1 x.2).map (au m)))) :
  af call [zF (.lst (l.map (gA m))),zF (aw m w),zF (.int t),none,none,none] f_handles_of.body=some (.rt (false,ba (cI ((l.flatMap λx=>cM m t w x.1 x.2).map Th.hd)))):=by
 obtain⟨Z',h,o4,o5,rfl⟩:=gZ (call:=call) (tg:=.two 4 5) (body:=v5)
  (λk Z=>∃(o4 o5:Option R),Z=[zF (.lst (l.map (gA m))),zF (aw m w),zF (.int t),zT (.lst (((l.take k).flatMap λx=>cM m t w x.1 x.2).map λu=>.int u.hd)),o4,o5]) (l.map (gA m)) 0
  [zF (.lst (l.map (gA m))),zF (aw m w),zF (.int t),zT (.lst []),none,none] ⟨none,none,rfl⟩ (by
   rintro k d Z hk ⟨o4,o5,rfl⟩
   rw [ia] at hk
   obtain⟨x,hx,rfl⟩:=zAo.mp hk
   have hc:=C31 x (jL hx)
   have h1:(l.take (0+k+1)).flatMap (λx=>cM m t w x.1 x.2)=(l.take (0+k)).flatMap (λx=>cM m t w x.1 x.2)++cM m t w x.1 x.2:=by rw [ff,Ax hx,qu];simp
   have h2:((l.take (0+k+1)).flatMap (λx=>cM m t w x.1 x.2)).length<=(l.flatMap λx=>cM m t w x.1 x.2).length:=by
    rw [<-qk (0+k+1) l,qu,gC,qk];omega
   rw [h1,gC] at h2
   refine⟨[zF (.lst (l.map (gA m))),zF (aw m w),zF (.int t),zT (.lst (((l.take (0+k)).flatMap λx=>cM m t w x.1 x.2).map λu=>.int u.hd)),zF (.str x.1),zF (ax m x.2)],_,rfl,?_,zF (.str x.1),zF (ax m x.2),rfl⟩
   rw [h1,jM]
   refine yD ?_ rfl (bH (by rw [bZ,bZ];omega)) rfl
   exact gP hc rfl rfl (eN call _ (au m) (λu=>.int u.hd) (cM m t w x.1 x.2) λu _=>⟨_,false,rfl,by have:=C8 u;simp [this]⟩))
 rw [bZ,ff,lj (nz _)] at h
 refine aF _ rfl ?_
 refine kM rfl rfl h ?_
 refine ah (cQ (oT (r:=(true,.lst _)) (cQ rfl ?_)) rfl) rfl
 rw [Bw,show ((l.flatMap λx=>cM m t w x.1 x.2).map λu=>D.int u.hd)=((l.flatMap λx=>cM m t w x.1 x.2).map Th.hd).map .int from by rw [iU];rfl,sU,cm,Ql (by rw [bZ];exact hl)]
theorem qRs (m:Nat) (t:Int) (w:Wt) (p:Tr) (hs:List Int) (ps:List D) (C32:call 30 [ax m p,aw m w,.int t]=zT (.lst ((cu (ww m t w) [] p).map (cA m)))) (C36:call 34 [.lst ((cu (ww m t w) [] p).map λr=>gA m r.2),aw m w,.int t]=zF (ba hs)) (C33:call 31 [.lst ((cu (ww m t w) [] p).map (cA m))]=zF (.tup ps)) :
  af call [zF (ax m p),zF (aw m w),zF (.int t),none] f_all_that.body=some (.rt (false,.tup [ba hs,.tup ps])):=by
 refine aF (true,.lst ((cu (ww m t w) [] p).map (cA m))) C32 ?_
 have hc:aa call [zF (ax m p),zF (aw m w),zF (.int t),zF (.lst ((cu (ww m t w) [] p).map (cA m)))] (.compS (.tup [V1,V2]) 3 [] (.many [0,1,2]) V3)=zT (.lst ((cu (ww m t w) [] p).map λr=>gA m r.2)):=gP rfl rfl rfl
  (eN call _ (cA m) (λr=>gA m r.2) (cu (ww m t w) [] p) λr _=>⟨_,false,rfl,rfl⟩)
 refine ah ?_ rfl
 have a1:aa call [zF (ax m p),zF (aw m w),zF (.int t),zF (.lst ((cu (ww m t w) [] p).map (cA m)))] (.call 34 [.compS (.tup [V1,V2]) 3 [] (.many [0,1,2]) V3,V1,V2])=zF (ba hs):=by
  rw [lZ,jt]
  show (((aa call [zF (ax m p),zF (aw m w),zF (.int t),zF (.lst ((cu (ww m t w) [] p).map (cA m)))] (.compS (.tup [V1,V2]) 3 [] (.many [0,1,2]) V3)).map (λx:R=>x.2)).bind _).bind _=_
  rw [hc]
  exact C36
 have a2:aa call [zF (ax m p),zF (aw m w),zF (.int t),zF (.lst ((cu (ww m t w) [] p).map (cA m)))] (.call 31 [V3])=zF (.tup ps):=C33
 show aa call [zF (ax m p),zF (aw m w),zF (.int t),zF (.lst ((cu (ww m t w) [] p).map (cA m)))] (.tup [.call 34 [.compS (.tup [V1,V2]) 3 [] (.many [0,1,2]) V3,V1,V2],.call 31 [V3]])=_
 rw [yY,kR,a1,dE,kR,a2]
 rfl
end
theorem qNG (m:Nat) (t:Int) (w:Wt) (x:Str) (p:Tr) (hx:(x=Qa "shut"/\∀u∈aA p,bp m u t w=false)∨(x=Qa "whole"/\∀u∈aA p,bp m u t w=true)∨x=dZ):cM m t w x p=bV m t w (cov (x,p)):=by
 have cv:x≠dZ->cov (x,p)=aA p:=λhne=>by
  cases p with
  | leaf ts=>rfl
  | fork ps=>exact Qm hne
 unfold cM
 rcases hx with ⟨x1,h⟩|⟨x2,h⟩|x3
 ·have hne:x≠dZ:=by rw [x1];decide
  rw [Qm (show x≠Qa "whole" by rw [x1];decide),Qm (λz=>hne z.1),cv hne]
  refine (List.filter_eq_nil_iff.mpr λu hu=>?_).symm
  rw [h u hu]
  exact ni
 ·have hne:x≠dZ:=by rw [x2];decide
  rw [Ql x2,cv hne]
  exact (List.filter_eq_self.mpr λu hu=>h u hu).symm
 ·rw [Qm (show x≠Qa "whole" by rw [x3];decide)]
  cases p with
  | leaf ts=>exact Ql ⟨x3,rfl⟩
  | fork ps =>
   rw [Qm (λz=>ni z.2),show cov (x,Tr.fork ps)=[] from Ql x3]
   rfl
theorem xZ (m:Nat) (t:Int) (ht:0<=t) (w:Wt) (hw:cH w) (p:Tr) (h:∀u∈aA p,bM u):(ww m t w p=Qa "shut"/\∀u∈aA p,bp m u t w=false)∨(ww m t w p=Qa "whole"/\aA p≠[]/\∀u∈aA p,bp m u t w=true)∨(ww m t w p=dZ/\∃o,tl p=some o/\aR m o t w=.op):=by
 have G:=oK p h
 unfold ww
 cases e:tl p with
 | none =>
  rw [e] at G
  have G:aA p=[]:=G
  exact .inl ⟨rfl,λu hu=>by rw [G] at hu;cases hu⟩
 | some o =>
  rw [e] at G
  obtain⟨g0,g1,g2⟩:=G
  show (lC (aR m o t w)=_/\_)∨_
  have sv:=λu hu=>j0 m u (h u hu) o g1 (g2 u hu) t ht w hw
  cases ev:aR m o t w with
  | ev=>exact .inr (.inl ⟨congrArg lC ev,g0,λu hu=>(sv u hu).1 ev⟩)
  | no=>exact .inl ⟨rfl,λu hu=>(sv u hu).2 ev⟩
  | op=>exact .inr (.inr ⟨congrArg lC ev,o,rfl,ev⟩)
theorem AV (m:Nat) (t:Int) (w:Wt):∀l:List (Str×Tr),(∀x∈l,cM m t w x.1 x.2=bV m t w (cov x))->(l.flatMap λx=>cM m t w x.1 x.2)=bV m t w (l.flatMap cov)
 | [],_=>rfl
 | x::l,h=>by
  rw [qQ,qQ,AV m t w l λy hy=>h y (nC _ hy),h x nF]
  show bV m t w _++bV m t w _=bV m t w _
  unfold bV
  rw [List.filter_append]
end Dw.T
namespace Dw.T
open Dw PySem
theorem jd (m:Nat) (w:Wt) (ds:List D):aO false (aw m w::ds)=zF (aw m w)::aO false ds:=by
 obtain⟨kn,os,e,_⟩:=rZ m w
 rw [e]
 rfl
theorem wL (m:Nat) (o:Option To) (ds:List D):aO false (aQ m o::ds)=zF (aQ m o)::aO false ds:=by cases o<;>rfl
theorem lU (n m:Nat) (p:Tr):aC tab (n+1) 22 [ax m p]=zF (.bl (eZ p)):=ao (n:=n) rfl rfl (by show aO false (ax m p::_)++_=_;rw [gs];rfl) (qJu m p)
theorem zi (n m:Nat) (p:Tr):aC tab (n+1) 23 [ax m p]=zF (aQ m (tl p)):=ao (n:=n) rfl rfl (by show aO false (ax m p::_)++_=_;rw [gs];rfl) (qLV m p)
theorem lV (n m:Nat) (p:Tr):aC tab (n+1) 24 [ax m p]=zF (.tup (jj m p)):=ao (n:=n) rfl rfl (by show aO false (ax m p::_)++_=_;rw [gs];rfl) (qJt m p)
theorem ye (m:Nat):∀(k:Nat) (p:Tr),hg p<=k->(aA p).length<=1000->∀n,aC tab (n+k+2) 27 [ax m p]=zF (.tup ((aA p).map (au m)))
 | 0,p,h,hl,n=>ao (n:=n+1) rfl rfl (by show aO false (ax m p::_)++_=_;rw [gs];rfl) (yE m p hl (lU n m p) (lV n m p) λq hq=>Qn hq (by omega))
 | k+1,p,h,hl,n=>ao (n:=n+k+2) rfl rfl (by show aO false (ax m p::_)++_=_;rw [gs];rfl) (yE m p hl (lU (n+k+1) m p) (lV (n+k+1) m p) λq hq hl=>ye m k q (by omega) hl n)
section
variable (m:Nat) (hm:0<m) (t:Int) (ht:0<=t/\t<=10^15) (w:Wt) (hw:cH w) (hd:dp w<=8)
include hm ht hw hd
theorem qKr (n:Nat) (u:Th) (hu:bM u):aC tab (n+13) (gh w) [aw m w,au m u,.int t]=zF (.bl (bp m u t w)):=by
 have:=kJ m hm u hu t ht w hw (n+(8 - dp w))
 rwa [show n+(8 - dp w)+dp w+5=n+13 from by omega] at this
theorem qNK (n:Nat) (o:To) (ok:ToOk o):aC tab (n+13) (fL w) [aw m w,aI m o,.int t]=zF (aS (aR m o t w)):=by
 have:=kO m hm o ok t ht w hw (n+(8 - dp w))
 rwa [show n+(8 - dp w)+dp w+5=n+13 from by omega] at this
theorem qIU (n:Nat) (ts:List Th) (h:∀u∈ts,bM u):aC tab (n+14) 32 [.tup (ts.map (au m)),aw m w,.int t]=zF (.tup ((bV m t w ts).map (au m))):=
 ao (n:=n+13) rfl rfl (by show zF (D.tup (ts.map (au m)))::aO false (aw m w::_)++_=_;rw [jd];rfl) (qHa m t w ts λu hu=>qKr m hm t ht w hw hd n u (h u hu))
theorem qSC (n:Nat) (x:Str) (p:Tr) (h:∀u∈aA p,bM u) (hl:(aA p).length<=1000) (hh:hg p<=8):aC tab (n+15) 33 [.str x,ax m p,aw m w,.int t]=zF (.tup ((cM m t w x p).map (au m))):=
 ao (n:=n+14) rfl rfl (by show zF (D.str x)::aO false (ax m p::aw m w::_)++_=_;rw [gs,jd];rfl) (qRp m t w x p (ye m 8 p hh hl (n+4)) (lU _ m p) (lV _ m p) λ_=>qIU m hm t ht w hw hd n (aA p) h)
theorem qIW (n:Nat) (l:List (Str×Tr)) (h:∀x∈l,(∀u∈aA x.2,bM u)/\(aA x.2).length<=1000/\hg x.2<=8) (hl:(l.flatMap λx=>cM m t w x.1 x.2).length<64):aC tab (n+16) 34 [.lst (l.map (gA m)),aw m w,.int t]=zF (ba (cI ((l.flatMap λx=>cM m t w x.1 x.2).map Th.hd))):=
 ao (n:=n+15) rfl rfl (by show zF (D.lst (l.map (gA m)))::aO false (aw m w::_)++_=_;rw [jd];rfl) (qHf m t w l hl (λu=>ao (n:=n+14) rfl rfl rfl (ah rfl rfl)) λx hx=>qSC m hm t ht w hw hd n x.1 x.2 (h x hx).1 (h x hx).2.1 (h x hx).2.2)
theorem xv (n:Nat) (p:Tr) (h:∀u∈aA p,bM u):aC tab (n+15) 97 [aQ m (tl p),.int t,aw m w]=zF (.str (ww m t w p)):=by
 have G:=oK p h
 have V:∀o',tl p=some o'->aC tab (n+13) (fL w) [aw m w,aI m o',.int t]=zF (aS (aR m o' t w)):=λo' e=>by
  rw [e] at G
  exact qNK m hm t ht w hw hd n o' G.2.1
 have ag3:aO false [aw m w,aQ m (tl p),.int t]++List.replicate 0 (none:Option R)=[zF (aw m w),zF (aQ m (tl p)),zF (.int t)]:=by rw [jd,wL];rfl
 have h1:=ao (n:=n+13) (tab:=tab) (f:=28) rfl rfl ag3 (qLP m t w (tl p) V)
 refine ao (n:=n+14) rfl rfl (Z:=[zF (aQ m (tl p)),zF (.int t),zF (aw m w)]) (by show aO false (aQ m (tl p)::D.int t::aw m w::[])++_=_;rw [wL];show _::_::(aO false (aw m w::[])++_)=_;rw [jd];rfl) (ah h1 rfl)
theorem Bo:∀(k:Nat) (q:List Int) (p:Tr),hg p<=k->(∀u∈aA p,bM u)->nd p<=4000->q.length+hg p<=1000->∀n,aC tab (n+k+16) 29 [ax m p,ba q,fZ m t w]=zT (.lst ((cu (ww m t w) q p).map (cA m)))
 | 0,q,p,hk,h,hn,hq,n=>by
  have:=hm;have:=hw;have:=hd
  exact ao (n:=n+15) rfl rfl (by show aO false (ax m p::_)++_=_;rw [gs];rfl) (Bi m t w q p (lU (n+14) m) (zi (n+14) m) (lV (n+14) m) (xv m hm t ht w hw hd n p h) (λp' q' _ h1 _ _=>Qn h1 (by omega)) hq hn)
 | k+1,q,p,hk,h,hn,hq,n=>by
  have:=hm;have:=hw;have:=hd
  exact ao (n:=n+k+16) rfl rfl (by show aO false (ax m p::_)++_=_;rw [gs];rfl) (Bi m t w q p (lU (n+k+15) m) (zi (n+k+15) m) (lV (n+k+15) m) (xv m hm t ht w hw hd (n+k+1) p h) (λp' q' h0 h1 h2 h3=>Bo k q' p' (by omega) (λu hu=>h u (h0 u hu)) (by omega) (by omega) n) hq hn)
end
end Dw.T
namespace Dw.T
open Dw PySem
theorem sg (ns:List Int) (hh:∀i∈ns,2 * i.natAbs<fF) (k:Nat) (d:Int) (hd:d.natAbs<=2^60):dH (bD ns k+d):=by
 refine qPp ?_ d hd
 unfold bD
 cases e:ns[k]? with
 | none =>
  have:=sL
  show 2 * (0:Int).natAbs<fF
  omega
 | some i=>exact hh i (jL e)
def lG (m:Nat) (t:Int) (w:Wt) (p:Tr):List Rw:=(cu (ww m t w) [] p).map λr=>(r.1,r.2.1)
def eV (m:Nat) (t:Int) (w:Wt) (p:Tr):D:=.tup [ba (cI ((bV m t w (aA p)).map Th.hd)),.tup ((lG m t w p).map dy)]
theorem oH (n m:Nat) (hm:0<m) (t:Int) (ht:0<=t/\t<=10^15) (w:Wt) (hw:cH w) (hd:dp w<=8) (p:Tr) (h:∀u∈aA p,bM u) (hs:(aA p).length<64) (hn:nd p<=4000) (hh:hg p<=8) :
  aC tab (n+26) 35 [ax m p,aw m w,.int t]=zF (eV m t w p):=by
 have C:=Bo m hm t ht w hw hd 8 [] p hh h hn (by show 0+hg p<=1000;omega) n
 generalize hl:cu (ww m t w) [] p=l at C
 have sub:∀r∈l,(∀u∈aA r.2.2,u∈aA p)/\hg r.2.2<=hg p/\(aA r.2.2).length<=(aA p).length/\r.2.1=ww m t w r.2.2:=by rw [<-hl];exact yg _ _ _
 have hc:(l.map λr=>r.2).flatMap cov=aA p:=by rw [List.flatMap_map,<-hl];exact yf _ _ _
 have hf:((l.map λr=>r.2).flatMap λx=>cM m t w x.1 x.2)=bV m t w (aA p):=by
  rw [<-hc]
  refine AV m t w _ λx hx=>?_
  obtain⟨r,hr,rfl⟩:=yaI.mp hx
  obtain⟨h1,h2,h3,h4⟩:=sub r hr
  refine qNG m t w _ _ ?_
  rw [h4]
  rcases xZ m t ht.1 w hw r.2.2 (λu hu=>h u (h1 u hu)) with a|a|a
  ·exact .inl a
  ·exact .inr (.inl ⟨a.1,a.2.2⟩)
  ·exact .inr (.inr a.1)
 have h36:=qIW m hm t ht w hw hd (n+9) (l.map λr=>r.2) (λx hx=>by
  obtain⟨r,hr,rfl⟩:=yaI.mp hx
  obtain⟨h1,h2,h3,h4⟩:=sub r hr
  exact⟨λu hu=>h u (h1 u hu),by omega,by omega⟩) (by rw [hf];exact Nat.lt_of_le_of_lt (wj _ _) hs)
 rw [hf,iU] at h36
 have e:eV m t w p=.tup [ba (cI ((bV m t w (aA p)).map Th.hd)),.tup (l.map λr=>dy (r.1,r.2.1))]:=by
  unfold eV lG
  rw [hl,iU]
  rfl
 rw [e]
 refine ao (n:=n+25) rfl rfl (Z:=[zF (ax m p),zF (aw m w),zF (.int t),none]) (by show aO false (ax m p::aw m w::_)++_=_;rw [gs,jd];rfl) (qRs m t w p _ _ ?_ ?_ ?_)
 ·rw [hl]
  refine ao (n:=n+24) rfl rfl (Z:=[zF (ax m p),zF (aw m w),zF (.int t)]) (by show aO false (ax m p::aw m w::_)++_=_;rw [gs,jd];rfl) ?_
  rw [<-hl]
  refine qOd m t w p ?_
  rw [hl]
  exact C
 ·rw [hl]
  exact h36
 ·rw [hl]
  exact ao (n:=n+24) rfl rfl rfl (qHb m l)
section
variable {call:Nat->List D->Option R}
theorem qHc (hs:List Int) (C74:∀i:Int,call 68 [.int i]=zF (.bl true)):af call [zF (ba hs)] f_law_numbers.body=some (.rt (false,.bl true)):=by
 have h1:=gP (call:=call) (Z:=[zF (ba hs)]) (e:=(.call 68 [V0])) (nl:=1) (ks:=[]) (tg:=.one 0) (src:=V0) rfl rfl rfl
  (eN call _ (λi:Int=>D.int i) (λ_=>.bl true) hs λi _=>⟨_,false,rfl,C74 i⟩)
 refine ah (yh (x:=false) rfl (cQ (jv h1) ?_)) rfl
 show (gu _).map _=_
 rw [pJ]
 show zF (D.bl ((hs.map λ_=>true).all id))=_
 rw [List.all_map]
 have:hs.all (id ∘ λ_=>true)=true:=yaH.mpr λ_ _=>rfl
 rw [this]
theorem qTN (l:List Int) (h:l.length<64):bL .sorted [.lst (l.map .int)]=zT (.lst ((cI l).map .int)):=by
 rw [Bw,sU,cm,Ql h]
end
theorem Bp (n:Nat) (hs:List Int):aC tab (n+2) 69 [ba hs]=zF (.bl true):=ao (n:=n+1) rfl rfl rfl (qHc hs λi=>ao (n:=n) rfl rfl rfl (ah rfl rfl))
end Dw.T
namespace Dw.T
open Dw PySem
theorem qNc (a b:List Int):eM .ne (ba a) (ba b)=zF (.bl (!decide (a=b))):=by
 rw [zm,qMy 19 a,AD a,AD b]
 show zF (D.bl (!gn _ _))=_
 rw [yT]
mutual
theorem yG:∀p:Tr,aA p=[]->tl p=none
 | .leaf ts,h=>by
  rw [aA] at h
  rw [tl,h]
  rfl
 | .fork ps,h=>by
  rw [aA] at h
  rw [tl]
  exact sJ ps h none
theorem sJ:∀ps:List Tr,br ps=[]->∀o,(iZ ps).foldl dP o=o
 | [],_,o=>rfl
 | p::ps,h,o=>by
  rw [br] at h
  have h':=List.append_eq_nil_iff.mp h
  rw [iZ,lq,yG p h'.1,sJ ps h'.2]
  cases o<;>rfl
end
mutual
theorem yH (u:Th):∀p:Tr,aA p=[u]->tl p=some (cf u)
 | .leaf ts,h=>by
  rw [aA] at h
  rw [tl,h]
  rfl
 | .fork ps,h=>by
  rw [aA] at h
  rw [tl]
  exact Av u ps h
theorem Av (u:Th):∀ps:List Tr,br ps=[u]->(iZ ps).foldl dP none=some (cf u)
 | [],h=>by rw [br] at h;cases h
 | p::ps,h=>by
  rw [br] at h
  rw [iZ,lq]
  cases e:aA p with
  | nil =>
   rw [e] at h
   rw [yG p e]
   exact Av u ps h
  | cons v r =>
   rw [e] at h
   injection h with h1 h2
   have h3:=List.append_eq_nil_iff.mp h2
   rw [h1,h3.1] at e
   rw [yH u p e]
   exact sJ ps h3.2 _
end
theorem kA (m:Nat) (u:Th) (t:Int):∀w:Wt,aR m (cf u) t w≠.op
 | .atm a=>by
  have:aR m (cf u) t (.atm a)=lD (fD m a (aN u) u.mr u.wo t) (fD m a (aN u) u.mr u.wo t):=by cases a<;>rfl
  rw [this]
  cases fD m a (aN u) u.mr u.wo t<;>decide
 | .both x y=>by
  have h1:=kA m u t x
  have h2:=kA m u t y
  show k7 (aR m (cf u) t x) (aR m (cf u) t y)≠.op
  revert h1 h2
  cases aR m (cf u) t x<;>cases aR m (cf u) t y<;>decide
 | .eith x y=>by
  have h1:=kA m u t x
  have h2:=kA m u t y
  show mO (aR m (cf u) t x) (aR m (cf u) t y)≠.op
  revert h1 h2
  cases aR m (cf u) t x<;>cases aR m (cf u) t y<;>decide
 | .unl x=>by
  have h1:=kA m u t x
  show il (aR m (cf u) t x)≠.op
  revert h1
  cases aR m (cf u) t x<;>decide
def qY (x:Str) (a b:Nat):Prop:=(x=Qa "shut"/\b=0)∨(x=Qa "whole"/\b=a/\0<a)∨(x=dZ/\1<a)
theorem qRh (m:Nat) (t:Int) (ht:0<=t) (w:Wt) (hw:cH w) (p:Tr) (h:∀u∈aA p,bM u):qY (ww m t w p) (aA p).length (bV m t w (aA p)).length:=by
 have G:=oK p h
 rcases xZ m t ht w hw p h with ⟨a,b⟩|⟨a,b,c⟩|⟨a,o,b,c⟩
 ·refine .inl ⟨a,?_⟩
  rw [show bV m t w (aA p)=[] from List.filter_eq_nil_iff.mpr λu hu=>by rw [b u hu];exact ni]
  rfl
 ·exact .inr (.inl ⟨a,by rw [show bV m t w (aA p)=aA p from List.filter_eq_self.mpr λu hu=>c u hu],List.length_pos_iff.mpr b⟩)
 ·refine .inr (.inr ⟨a,?_⟩)
  rw [b] at G
  have g0:=G.1
  cases e:aA p with
  | nil=>exact Qn e g0
  | cons u r =>
   cases r with
   | nil =>
    rw [yH u p e] at b
    cases b
    exact Qn c (kA m u t w)
   | cons v r=>show 1<r.length+1+1;omega
section
variable {call:Nat->List D->Option R}{Z:En}
theorem qHe (rs:List Rw) (C75:∀hs,call 69 [ba hs]=zF (.bl true)):af call [zF (.tup (rs.map dy)),none] f_law_is_paper.body=some (.rt (false,.bl true)):=by
 obtain⟨Z',hf,o1,rfl⟩:=gZ (call:=call) (tg:=.one 1) (body:=v3)
  (λ_ Z=>∃o1:Option R,Z=[zF (.tup (rs.map dy)),o1]) (rs.map dy) 0 [zF (.tup (rs.map dy)),none] ⟨none,rfl⟩ (by
   rintro j d Z hj ⟨o1,rfl⟩
   rw [ia] at hj
   obtain⟨r,hr,rfl⟩:=zAo.mp hj
   have c:=C75 r.1
   refine⟨[zF (.tup (rs.map dy)),zF (dy r)],_,rfl,?_,zF (dy r),rfl⟩
   refine aq (x:=false) (fS (p:=false) (q:=false) (x:=false) rfl (fS (p:=false) (q:=false) (x:=false) rfl (fS (p:=false) (q:=false) (x:=false) ?_ rfl))) rfl
   rw [yJ,show aa call [zF (.tup (rs.map dy)),zF (dy r)] (.call 69 [(.ix V1 (kI 0))])=zF (.bl true) from c]
   rfl)
 exact aq (x:=false) rfl (kM (r:=(false,.tup (rs.map dy))) rfl rfl hf (ah rfl rfl))
theorem rM (a b:Int):eM .eq (.int a) (.int b)=zF (.bl (decide (a=b))):=rfl
theorem qOj (x:Str) (a b:Nat) (h:qY x a b):af call [zF (.str x),zF (.int (a:Int)),zF (.int (b:Int))] f_law_word_fits.body=some (.rt (false,.bl true)):=by
 have e0:aa call [zF (.str x),zF (.int (a:Int)),zF (.int (b:Int))] (.cmp .eq V1 (kI 0))=zF (.bl (decide ((a:Int)=0))):=eg rfl rfl (rM _ _)
 have e1:aa call [zF (.str x),zF (.int (a:Int)),zF (.int (b:Int))] (.cmp .eq V1 (kI 1))=zF (.bl (decide ((a:Int)=1))):=eg rfl rfl (rM _ _)
 have e2:aa call [zF (.str x),zF (.int (a:Int)),zF (.int (b:Int))] (.cmp .eq V0 (.k (tx "shut")))=zF (.bl (decide (x=Qa "shut"))):=eg rfl rfl (iK x "shut")
 have e3:aa call [zF (.str x),zF (.int (a:Int)),zF (.int (b:Int))] (.cmp .eq V0 (.k (tx "whole")))=zF (.bl (decide (x=Qa "whole"))):=eg rfl rfl (iK x "whole")
 have e4:aa call [zF (.str x),zF (.int (a:Int)),zF (.int (b:Int))] (.cmp .eq V0 (.k (tx "open")))=zF (.bl (decide (x=Qa "open"))):=eg rfl rfl (iK x "open")
 by_cases a0:a=0
 ·rw [Qk (by omega)] at e0
  have:x=Qa "shut":=by rcases h with h|h|h<;>first|exact h.1|omega
  rw [Qk this] at e2
  exact aV e0 (ah e2 rfl) rfl
 rw [Qj (by omega)] at e0
 by_cases a1:a=1
 ·rw [Qk (by omega)] at e1
  refine aq e0 (aV e1 (ah ?_ rfl) rfl)
  subst a1
  rcases h with ⟨rfl,rfl⟩|⟨rfl,rfl,_⟩|⟨_,h⟩
  ·exact eg rfl rfl ((iK _ "shut").trans (by rw [Qk rfl]))
  ·exact eg rfl rfl ((iK _ "whole").trans (by rw [Qk rfl]))
  ·omega
 rw [Qj (by omega)] at e1
 refine aq e0 (aq e1 ?_)
 rcases h with ⟨rfl,rfl⟩|⟨rfl,rfl,_⟩|⟨rfl,h⟩
 ·rw [Qk rfl] at e2
  exact aV e2 (ah rfl rfl) rfl
 ·rw [Qj (by decide)] at e2
  rw [Qk rfl] at e3
  refine aq e2 (aV e3 (ah (eg rfl rfl ?_) rfl) rfl)
  rw [rM,Qk rfl]
 ·rw [Qj (by decide)] at e2 e3
  rw [Qk (show dZ=Qa "open" from rfl)] at e4
  exact aq e2 (aq e3 (ah e4 rfl))
theorem qUd {a b c:C}{x y z:D}(ha:ag Z a (aa call Z a)=some x) (hb:ag Z b (aa call Z b)=some y) (hc:ag Z c (aa call Z c)=some z):dU call Z [a,b,c]=some [x,y,z]:=by
 rw [jt,ha,dE,jt,hb,dE,jt,hc]
 rfl
theorem zt {f:Nat}{e:C}{nl:Nat}{ks:List Nat}{tg:Tg}{rs as:List C}{ys ds:List D}{r:Option R}(h:aa call Z (.compR e nl ks tg rs)=some (true,.lst ys)) (hs:dU call Z as=some ds) (hc:call f (.lst ys::ds)=r):aa call Z (.call f (.compR e nl ks tg rs::as))=r:=by
 rw [lZ,jt]
 show (((aa call Z (.compR e nl ks tg rs)).map (λx:R=>x.2)).bind _).bind _=_
 rw [h]
 show ((dU call Z as).bind _).bind _=_
 rw [hs]
 exact hc
end
end Dw.T
namespace Dw.T
open Dw PySem
structure La (call:Nat->List D->Option R) (ns:List Int):Prop where
 cell:∀k:Nat,call 51 [.lst (ns.map .int),.int (k:Int)]=zF (.int (bD ns k))
 dr:Dr call
 scale:∀c,dH c->∃s,SclOk s/\call 53 [.int c]=zF (aH s)
 things:∀(cs:List Int) (m:Nat) (s:dB),cs.length<=60->(∀c∈cs,dH c)->m<=3->SclOk s->∃ts:List Th,(∀u∈ts,bM u)/\ts.length<=cs.length/\call 56 [.lst (cs.map .int),.int (m:Int),aH s]=zT (.lst (ts.map (au m)))
 leaf:∀(m:Nat) (ts:List Th),call 26 [.tup (ts.map (au m))]=zF (ax m (.leaf ts))
 plain:∀(c0:Int) (cs:List Int) (m:Nat) (s:dB),m<=3->SclOk s->(∀c∈c0::cs,dH c)->cs.length<=4->∃w,cH w/\eR w/\dp w<=8/\call 63 [.lst ((c0::cs).map .int),.int (m:Int),aH s]=zF (aE m w)
 suits:∀(m:Nat) (u:Th) (t:Int) (w:Wt),m<=3->bM u->(0<=t/\t<=10^15)->dp w<=8->cH w->eR w->call 67 [aE m w,au m u,.int t]=zF (.bl (bp m u t w))
 all:∀(m:Nat) (t:Int) (w:Wt) (p:Tr),0<m->(0<=t/\t<=10^15)->cH w->dp w<=8->(∀u∈aA p,bM u)->(aA p).length<64->nd p<=4000->hg p<=8->call 35 [ax m p,aw m w,.int t]=zF (eV m t w p)
 want:∀(m:Nat) (w:Wt),dp w<=8->call 65 [aE m w]=zF (aw m w)
 nums:∀hs,call 69 [ba hs]=zF (.bl true)
 pap:∀rs:List Rw,call 70 [.tup (rs.map dy)]=zF (.bl true)
 fits:∀(x:Str) (a b:Nat),qY x a b->call 71 [.str x,.int (a:Int),.int (b:Int)]=zF (.bl true)
abbrev yS (ns:List Int) (s:dB) (m c:Nat) (ts:List Th) (k:Nat) (w:Wt) (t:Int) (r10 r11:Option R):En:=[zF (.lst (ns.map .int)),zF (.int (bD ns 0)),zF (aH s),zF (.int (m:Int)),zF (.int (c:Int)),zF (.lst (ts.map (au m))),zF (.int ((k+1:Nat):Int)),zF (aE m w),zF (.int t),zF (ax m (.leaf ts)),r10,r11]
section
variable {call:Nat->List D->Option R}
theorem qOh (ns:List Int) (A:La call ns) (s:dB) (m c k:Nat) (m3:m<=3) (m2:2<=m) (ts:List Th) (tk:∀u∈ts,bM u) (tl':ts.length<64) (w:Wt) (wk:cH w) (wx:eR w) (wd:dp w<=8) (t:Int) (ht:0<=t/\t<=10^15) :
  af call (yS ns s m c ts k w t (zF (eV m t w (.leaf ts))) none) (f_law.body.drop 10)=some (.rt (false,.bl true)):=by
 have hf:=A.fits (ww m t w (.leaf ts)) ts.length (bV m t w ts).length (qRh m t ht.1 w wk (.leaf ts) tk)
 have er:lG m t w (.leaf ts)=[([],ww m t w (.leaf ts))]:=by unfold lG;rw [cu];rfl
 have g0:aM (eV m t w (.leaf ts)) (.int 0)=zF (ba (cI ((bV m t w ts).map Th.hd))):=rfl
 have g1:aM (eV m t w (.leaf ts)) (.int 1)=zF (.tup [dy ([],ww m t w (.leaf ts))]):=by rw [show aM (eV m t w (.leaf ts)) (.int 1)=zF (.tup ((lG m t w (.leaf ts)).map dy)) from rfl,er];rfl
 have n0:=A.nums (cI ((bV m t w ts).map Th.hd))
 have n1:call 70 [.tup [dy ([],ww m t w (.leaf ts))]]=zF (.bl true):=A.pap [([],ww m t w (.leaf ts))]
 refine aq (x:=false) (fS (p:=false) (q:=false) (x:=false) rfl rfl) ?_
 have hcf:aa call (yS ns s m c ts k w t (zF (eV m t w (.leaf ts))) none) (.compF (.ix V0 (kI 0)) (.call 67 [V2,V0,V1]) 1 [8,7] (.one 0) V5)=zT (.lst (((bV m t w ts).map Th.hd).map .int)):=by
  rw [Bq]
  show (iN call (.call 67 [V2,V0,V1]) (.ix V0 (kI 0)) [none,zF (.int t),zF (aE m w)] (.one 0) (ts.map (au m))).bind _=_
  rw [tV (au m) (λu=>.int u.hd) (λu=>bp m u t w) ts λu hu=>⟨_,rfl,by have:=A.suits m u t w m3 (tk u hu) ht wd wk wx;simp [this],λ_=>⟨false,rfl⟩⟩]
  rw [iU]
  rfl
 refine aF _ hcf ?_
 have hlen:((bV m t w ts).map Th.hd).length=(bV m t w ts).length:=bZ _
 have hl64:((bV m t w ts).map Th.hd).length<64:=by rw [hlen];exact Nat.lt_of_le_of_lt (wj _ _) tl'
 generalize (bV m t w ts).length=b at hf hlen
 generalize (bV m t w ts).map Th.hd=X at *
 generalize ww m t w (.leaf ts)=x at *
 generalize eV m t w (.leaf ts)=an at *
 have b1:aa call (yS ns s m c ts k w t (zF an) (zF (.lst (X.map .int)))) (.ix d3 (kI 0))=zF (ba (cI X)):=j3 rfl rfl g0
 have b2:aa call (yS ns s m c ts k w t (zF an) (zF (.lst (X.map .int)))) (.ix d3 (kI 1))=zF (.tup [dy ([],x)]):=j3 rfl rfl g1
 have b3:aa call (yS ns s m c ts k w t (zF an) (zF (.lst (X.map .int)))) (.bi .tuple [.bi .sorted [mV]])=zF (ba (cI X)):=cQ (oT (r:=(true,.lst ((cI X).map .int))) (cQ rfl (qTN X hl64))) rfl
 have b4:aa call (yS ns s m c ts k w t (zF an) (zF (.lst (X.map .int)))) (.not (.call 69 [.ix d3 (kI 0)]))=zF (.bl false):=by simp [yS,g0,n0]
 have b5:aa call (yS ns s m c ts k w t (zF an) (zF (.lst (X.map .int)))) (.not (.call 70 [.ix d3 (kI 1)]))=zF (.bl false):=by simp [yS,g1,n1]
 have b6:aa call (yS ns s m c ts k w t (zF an) (zF (.lst (X.map .int)))) (.ix (.ix d3 (kI 1)) (kI 0))=zF (dy ([],x)):=j3 (km b2) rfl rfl
 have b7:aa call (yS ns s m c ts k w t (zF an) (zF (.lst (X.map .int)))) (.ix (.ix (.ix d3 (kI 1)) (kI 0)) (kI 0))=zF (ba []):=j3 (km b6) rfl rfl
 have b8:aa call (yS ns s m c ts k w t (zF an) (zF (.lst (X.map .int)))) (.ix (.ix (.ix d3 (kI 1)) (kI 0)) (kI 1))=zF (.str x):=j3 (km b6) rfl rfl
 have b9:aa call (yS ns s m c ts k w t (zF an) (zF (.lst (X.map .int)))) (.bi .len [.ix d3 (kI 1)])=zF (.int 1):=cQ (km b2) rfl
 have bA:aa call (yS ns s m c ts k w t (zF an) (zF (.lst (X.map .int)))) (.bi .len [V5])=zF (.int (ts.length:Int)):=cQ rfl (by show some (false,D.int (((ts.map (au m)).length:Nat):Int))=_;rw [bZ])
 have bB:aa call (yS ns s m c ts k w t (zF an) (zF (.lst (X.map .int)))) (.bi .len [mV])=zF (.int (b:Int)):=cQ rfl (by show some (false,D.int (((X.map D.int).length:Nat):Int))=_;rw [bZ,hlen])
 refine aq (x:=false) (fS (p:=false) (q:=false) (x:=false) b4 (eg (km b1) (oT b3) ?_)) ?_
 ·have:=qNc (cI X) (cI X)
  rw [this,Qk rfl]
  rfl
 refine aq (x:=false) (fS (p:=false) (q:=false) (x:=false) b5 (fS (p:=false) (q:=false) (x:=false) (eg (oT b9) rfl rfl) (eg (km b7) rfl rfl))) ?_
 refine ah ?_ rfl
 show aa call (yS ns s m c ts k w t (zF an) (zF (.lst (X.map .int)))) (.call 71 [.ix (.ix (.ix d3 (kI 1)) (kI 0)) (kI 1),.bi .len [V5],.bi .len [mV]])=_
 rw [lZ,qUd (x:=.str x) (y:=.int (ts.length:Int)) (z:=.int (b:Int)) (by rw [b8];rfl) (by rw [bA];rfl) (by rw [bB];rfl)]
 exact hf
theorem qRq (ns:List Int) (hl:ns.length<=63) (hh:∀i∈ns,2 * i.natAbs<fF) (A:La call ns):af call [zF (.lst (ns.map .int)),none,none,none,none,none,none,none,none,none,none,none] f_law.body=some (.rt (false,.bl true)):=by
 have ok0:∀k,dH (bD ns k):=λk=>by have:=sg ns hh k 0 (by decide);rwa [Int.add_zero] at this
 have c0:call 51 [.lst (ns.map .int),.int 0]=zF (.int (bD ns 0)):=A.cell 0
 have c1:call 51 [.lst (ns.map .int),.int 1]=zF (.int (bD ns 1)):=A.cell 1
 obtain⟨s,sk,e55⟩:=A.scale _ (ok0 0)
 have d91:=A.dr (bD ns 0) 91 2 (ok0 0) (by decide) (by decide)
 have b91:=cj (bD ns 0) 91 2 (by decide)
 generalize aU (bD ns 0) 91 2=dm at d91 b91
 obtain⟨m,hm⟩:∃m:Nat,(2+dm)=(m:Int):=⟨(2+dm).toNat,by omega⟩
 have m2:2<=m:=by omega
 have m3:m<=3:=by omega
 have d92:=A.dr (bD ns 1) 92 13 (ok0 1) (by decide) (by decide)
 have b92:=cj (bD ns 1) 92 13 (by decide)
 generalize aU (bD ns 1) 92 13=dc at d92 b92
 obtain⟨c,rfl⟩:=wq b92.1
 generalize hT:((List.range c).map λi:Nat=>bD ns (5+i)+7919 * (i:Int))=TT
 have hTl:TT.length=c:=by rw [<-hT];simp
 have hTo:∀x∈TT,dH x:=λx hx=>by
  rw [<-hT] at hx
  obtain⟨i,hi,rfl⟩:=yaI.mp hx
  have:=zBa.mp hi
  exact sg ns hh _ _ (by omega)
 obtain⟨ts,tk,tl',e58⟩:=A.things TT m s (by omega) hTo m3 sk
 have d93:=A.dr (bD ns 0) 93 3 (ok0 0) (by decide) (by decide)
 have b93:=cj (bD ns 0) 93 3 (by decide)
 generalize aU (bD ns 0) 93 3=dk at d93 b93
 obtain⟨k,rfl⟩:=wq b93.1
 have ek:(1+(k:Int))=((k+1:Nat):Int):=by omega
 generalize hL:((List.range (k+1)).map λi:Nat=>bD ns (2+i)+31 * (i:Int))=L
 have hLl:L.length=k+1:=by rw [<-hL];simp
 have hLo:∀c∈L,dH c:=λc hc=>by
  rw [<-hL] at hc
  obtain⟨i,hi,rfl⟩:=yaI.mp hc
  have:=zBa.mp hi
  exact sg ns hh _ _ (by omega)
 have mu:∀x:Int,cZ 7919 x=true:=λx=>ef 7919 x (by decide)
 have mv:∀x:Int,cZ 31 x=true:=λx=>ef 31 x (by decide)
 obtain⟨a0,as,rfl⟩:=List.exists_cons_of_ne_nil (l:=L) (by intro z;rw [z] at hLl;simp at hLl)
 obtain⟨w,wk,wx,wd,e69⟩:=A.plain a0 as m s m3 sk hLo (by rw [d4] at hLl;omega)
 have d94:=A.dr (bD ns 1) 94 s.2.2 (ok0 1) (by decide) (by have:=sk.c;omega)
 have b94:=cj (bD ns 1) 94 s.2.2 (by have:=sk.c;omega)
 generalize aU (bD ns 1) 94 s.2.2=t at d94 b94
 have ht:0<=t/\t<=10^15:=by have:=sk.c;omega
 have d95:=A.dr (bD ns 0) 95 3 (ok0 0) (by decide) (by decide)
 have e71:=A.want m w wd
 have e26:=A.leaf m ts
 have cl5:∀i:Nat,call 51 [.lst (ns.map .int),.int (5+(i:Int))]=zF (.int (bD ns (5+i))):=λi=>by have:=A.cell (5+i);rwa [show ((5+i:Nat):Int)=5+(i:Int) by omega] at this
 have cl2:∀i:Nat,call 51 [.lst (ns.map .int),.int (2+(i:Int))]=zF (.int (bD ns (2+i))):=λi=>by have:=A.cell (2+i);rwa [show ((2+i:Nat):Int)=2+(i:Int) by omega] at this
 refine aF (false,.int (bD ns 0)) (by simp [c0]) ?_
 refine aF (false,aH s) (by simp [e55]) ?_
 refine aF (false,.int (m:Int)) (by simp [d91,hm]) ?_
 refine aF (false,.int (c:Int)) (by simp [c1,d92]) ?_
 refine aF (true,.lst (ts.map (au m))) (zt (ys:=TT.map .int) ?_ rfl e58) ?_
 ·refine pI (its:=(List.range c).map λi=>.int (i:Nat)) rfl (rW _ (by omega)) (bH (by rw [bZ,nq];omega)) rfl ?_
  rw [<-hT,iU]
  exact eN call _ (λi:Nat=>D.int (i:Nat)) (λi=>.int (bD ns (5+i)+7919 * (i:Int))) _ λi _=>⟨_,false,rfl,by have:=cl5 i;simp [mu,this]⟩
 refine aF (false,.int ((k+1:Nat):Int)) (by simp [d93,ek]) ?_
 refine aF (false,aE m w) (zt (ys:=(a0::as).map .int) ?_ rfl e69) ?_
 ·refine pI (its:=(List.range (k+1)).map λi=>.int (i:Nat)) rfl (rW _ (by omega)) (bH (by rw [bZ,nq];omega)) rfl ?_
  rw [<-hL,iU]
  exact eN call _ (λi:Nat=>D.int (i:Nat)) (λi=>.int (bD ns (2+i)+31 * (i:Int))) _ λi _=>⟨_,false,rfl,by have:=cl2 i;simp [mv,this]⟩
 refine aF (false,.int t) (by simp [c1,fN,d94]) ?_
 refine aF (false,ax m (.leaf ts)) (qNF (b:=false) (d:=.tup (ts.map (au m))) (cQ rfl rfl) e26) ?_
 have K:=λt' ht'=>qOh ns A s m c k m3 m2 ts tk (by omega) w wk wx wd t' ht'
 have hud:∀u∈aA (.leaf ts),bM u:=tk
 have hul:(aA (.leaf ts)).length<64:=by rw [aA];omega
 have pn:nd (.leaf ts)<=4000:=by rw [nd];omega
 have ph:hg (.leaf ts)<=8:=by rw [hg];omega
 generalize aU (bD ns 0) 95 3=e at d95
 have e1:aa call (yS ns s m c ts k w t none none) (.cmp .eq (.call 52 [V1,kI 95,kI 3]) (kI 0))=zF (.bl (decide (e=0))):=by
  refine eg (qMO (r:=(false,.int e)) (by simp [yS,d95])) rfl ?_
  show zF (D.bl (e == 0))=_
  rfl
 by_cases he:e=0
 ·rw [Qk he] at e1
  have h0:(0:Int)<=0/\(0:Int)<=10^15:=by decide
  have e37:=A.all m 0 w (.leaf ts) (by omega) h0 wk wd hud hul pn ph
  refine iy e1 (Z':=yS ns s m c ts k w 0 (zF (eV m 0 w (.leaf ts))) none) ?_ (K 0 h0)
  refine aF (false,.int 0) rfl ?_
  exact aF (false,eV m 0 w (.leaf ts)) (by simp [e71,e37]) rfl
 ·rw [Qj he] at e1
  have e37:=A.all m t w (.leaf ts) (by omega) ht wk wd hud hul pn ph
  refine lK e1 (Z':=yS ns s m c ts k w t (zF (eV m t w (.leaf ts))) none) ?_ (K t ht)
  exact aF (false,eV m t w (.leaf ts)) (by simp [e71,e37]) rfl
end
theorem jF (n:Nat):Dr (aC tab (n+1)):=λc k d hc hk hd=>ao (n:=n) rfl rfl rfl (qOk c k d hc hk hd)
theorem c_law37 (n:Nat) (ns:List Int) (hl:ns.length<=63) (hh:∀i∈ns,2 * i.natAbs<fF):aC tab (n+27) 72 [.lst (ns.map .int)]=zF (.bl true):=by
 refine ao (n:=n+26) rfl rfl rfl (qRq ns hl hh ⟨λk=>ao (n:=n+25) rfl rfl rfl (qOl ns k),jF _,λc hc=>?_,λcs m s h1 h2 h3 h4=>?_,λm ts=>qNL (n+21) m ts,λc0 cs m s h1 h2 h3 h4=>?_,λm u t w h1 hu h2 h3 h4 h5=>Ad m h1 u hu t h2 8 w h3 h4 h5 (n+15),λm t w p h1 h2 h3 h4 h5 h6 h7 h8=>oH n m h1 t h2 w h3 h4 p h5 h6 h7 h8,λm w h=>Ae m 8 w h (n+16),Bp (n+24),λrs=>ao (n:=n+25) rfl rfl rfl (qHe rs (Bp (n+23))),λx a b h=>ao (n:=n+25) rfl rfl rfl (qOj x a b h)⟩)
 ·obtain⟨s,h1,h2⟩:=qLU (call:=aC tab (n+25)) c hc (jF _)
  exact⟨s,h1,ao (n:=n+25) rfl rfl rfl h2⟩
 ·obtain⟨ts,q1,q2,q3⟩:=qJs (call:=aC tab (n+25)) cs m s (by omega) λc hc=>by
   obtain⟨u,u1,u2⟩:=qLR (call:=aC tab (n+24)) c m h3 s (h2 c hc) h4 (jF _) λk hk=>ao (n:=n+23) rfl rfl rfl (qOg c k s (h2 c hc) hk h4 (jF _))
   exact⟨u,u1,ao (n:=n+24) rfl rfl rfl u2⟩
  exact⟨ts,q1,q2,ao (n:=n+25) rfl rfl rfl q3⟩
 ·obtain⟨w,q1,q2,q3,q4⟩:=qLW (call:=aC tab (n+25)) c0 cs m s h3 (jF _) λc hc=>by
   obtain⟨a,a1,a2,a3⟩:=qL4 (call:=aC tab (n+24)) c m s hc h2 (jF _) (ao (n:=n+23) rfl rfl rfl (qRr c m h1 s hc h2 (jF _)))
   exact⟨a,a1,a2,ao (n:=n+24) rfl rfl rfl a3⟩
  exact⟨w,q1,q2,by omega,ao (n:=n+25) rfl rfl rfl q4⟩
end Dw.T
namespace Dw.K37
open PySem L2 Dw Dw.T
open PySem.W (isFn makesIn plainGet hasDictIn plainOver nsIn fnOf codeIn keepIn findIn mg_of mg_none_of Frag)
noncomputable def ue:List (Str×Nat×Nat×Nat×List Str)->List Mt
 | []=>[]
 | (n,_,C,i,ns)::r=>⟨n,⟨C,ns⟩,"suits",i⟩::⟨n,⟨C,ns⟩,"verdict",i+1⟩::ue r
def gx:Gx:=⟨("want_cut",30)::("all_that",35)::("side_at",1)::("side_joined",2)::("side_narrowed",3)::("still_swath",4)::("frame_at",5)::("frames_joined",6)::("frames_narrowed",7)::("thing_handle",8)::("thing_swath",9)::("thing_marks",10)::("thing_worth",11)::("thing_box",12)::("told_cover",13)::("told_heart",14)::("told_some",15)::("told_every",16)::("told_least",17)::("told_most",18)::("thing_told",19)::("told_poured",20)::("tolds_poured",21)::("is_leaf",22)::("page_told",23)::("page_parts",24)::("things_tolds",25)::("make_leaf",26)::("things_in",27)::("want_word",28)::("cut_from",29)::("paper_of",31)::("suiting_in",32)::("things_of_row",33)::("handles_of",34)::("sides_meet",36)::("side_inside",37)::("side_gap",38)::("boxes_meet",39)::("box_inside",40)::("box_gap",41)::("beats_of",42)::("beats_below",43)::("meeting",44)::("verdict_from",45)::("cover_at",46)::("heart_at",47)::("has_each",48)::("has_one",49)::("crosses_box",50)::("_law_cell_at",51)::("_law_draw",52)::("_law_scale",53)::("_law_side_by",54)::("_law_thing_by",55)::("_law_things_by",56)::("_law_at",57)::("_law_touch",58)::("_law_lies_in",59)::("_law_gap_of",60)::("_law_box_by",61)::("_law_atom_by",62)::("_law_plain_by",63)::("_law_atom_of",64)::("_law_want_of",65)::("_law_atom_suits",66)::("_law_suits",67)::("_law_number",68)::("_law_numbers",69)::("_law_is_paper",70)::("_law_word_fits",71)::("law",72)::[],[],[],⟨"Anything",⟨415,[]⟩,"suits",73⟩::⟨"Anything",⟨415,[]⟩,"verdict",74⟩::ue gm,("box",0)::("far",1)::("marks",0)::("first",1)::("last",2)::("least",0)::("one",0)::("two",1)::[],[],("WORDS",("none","shut")::("every","whole")::("open","open")::[])::[],("all_that",2,0)::[]⟩
theorem zf:∀x∈bP,gx.defs.lookup x=none:=by decide +kernel
abbrev cq (s:Stmt):=f6 gx 60 (av s) (aY (av s)) (gN 60 (aY (av s)) (bJ s)) (bJ s)
def lF (s:Stmt) (ps:List Str):Bool:=(av s).kind == .function&&!(av s).isCoroutine&&!(av s).isGenerator&&decide (aY (av s)).Nodup&&decide ((aY (av s)).take ps.length=ps)&&ps.all (λx=>(av s).names.lookup x == some .local||(av s).names.lookup x == some .cell)&&(av s).names.all λy=>y.2 != .free
theorem j6 {s:Stmt}{ps:List Str}(h:lF s ps=true):FnScope (aY (av s)) ps (av s):=by
 unfold lF at h
 simp only [aL,yaH,dD,beq_iff_eq,bne_iff_ne,Bool.not_eq_true',decide_eq_true_eq] at h
 obtain⟨⟨⟨⟨⟨⟨h1,h2⟩,h3⟩,h4⟩,h5⟩,h6⟩,h7⟩:=h
 exact⟨h1,h2,h3,h4,h5,h6,h7⟩
theorem wz {P:List Value->Prop}(h:∀a,P [a]) (us:List Value) (hl:us.length=1):P us:=by
 obtain⟨a,rfl⟩:=List.length_eq_one_iff.mp hl
 exact h a
theorem qT {P:List Value->Prop}(h:∀a0 a1,P [a0,a1]) (us:List Value) (hl:us.length=2):P us:=by
 cases us with
 | nil=>cases hl
 | cons a r=>exact wz (P:=λr=>P (a::r)) (h a) r (Nat.succ.inj hl)
theorem qS {P:List Value->Prop}(h:∀a0 a1 a2,P [a0,a1,a2]) (us:List Value) (hl:us.length=3):P us:=by
 cases us with
 | nil=>cases hl
 | cons a r=>exact qT (P:=λr=>P (a::r)) (h a) r (Nat.succ.inj hl)
theorem us4 {P:List Value->Prop}(h:∀a0 a1 a2 a3,P [a0,a1,a2,a3]) (us:List Value) (hl:us.length=4):P us:=by
 cases us with
 | nil=>cases hl
 | cons a r=>exact qS (P:=λr=>P (a::r)) (h a) r (Nat.succ.inj hl)
theorem vT {fd:FuncData}{ps:List Str}(hp:ps.length=1) (h:∀a0,bindArgs fd ⟨[a0],[]⟩=pure (ps.zip [a0])) (us:List Value) (hl:us.length=ps.length):bindArgs fd ⟨us,[]⟩=pure (ps.zip us):=wz (P:=λus=>bindArgs fd ⟨us,[]⟩=pure (ps.zip us)) h us (hl.trans hp)
theorem vS {fd:FuncData}{ps:List Str}(hp:ps.length=2) (h:∀a0 a1,bindArgs fd ⟨[a0,a1],[]⟩=pure (ps.zip [a0,a1])) (us:List Value) (hl:us.length=ps.length):bindArgs fd ⟨us,[]⟩=pure (ps.zip us):=qT (P:=λus=>bindArgs fd ⟨us,[]⟩=pure (ps.zip us)) h us (hl.trans hp)
theorem p0 {fd:FuncData}{ps:List Str}(hp:ps.length=3) (h:∀a0 a1 a2,bindArgs fd ⟨[a0,a1,a2],[]⟩=pure (ps.zip [a0,a1,a2])) (us:List Value) (hl:us.length=ps.length):bindArgs fd ⟨us,[]⟩=pure (ps.zip us):=qS (P:=λus=>bindArgs fd ⟨us,[]⟩=pure (ps.zip us)) h us (hl.trans hp)
theorem vR {fd:FuncData}{ps:List Str}(hp:ps.length=4) (h:∀a0 a1 a2 a3,bindArgs fd ⟨[a0,a1,a2,a3],[]⟩=pure (ps.zip [a0,a1,a2,a3])) (us:List Value) (hl:us.length=ps.length):bindArgs fd ⟨us,[]⟩=pure (ps.zip us):=us4 (P:=λus=>bindArgs fd ⟨us,[]⟩=pure (ps.zip us)) h us (hl.trans hp)
theorem fc {α:Type}{p:α->Prop}{a:α}{l:List α}(h:p a) (t:∀x∈l,p x):∀x∈a::l,p x:=List.forall_mem_cons.mpr ⟨h,t⟩
section
variable {K:Frag}{h:Heap}{mg:Str->Option Value}
abbrev Bd (x q:Str) (s:Stmt) (ps:List Str):Prop:=∀(kV doc pm:Value) (an:Option Addr) (cdv ct:Value) (us:List Value),us.length=ps.length->bindArgs (fnOf x q (dR s) (bJ s) (av s) .none kV doc pm an cdv ct) ⟨us,[]⟩=pure (ps.zip us)
abbrev tW (s:Stmt):List Str:=(dR s).args.map (·.arg)
abbrev Cn (K:Frag) (x q:Str) (s:Stmt) (m:Str) (t:Tok) (c:Nat) (fd:Fd):Prop:=K.lookup (c+1)=some (fo x q s m t c)/\codeIn K (.ref c) q=true/\keepIn K (.ref (c+1))=true/\Bd x q s (tW s)/\lF s (tW s)=true/\cq s=some fd.body/\fd.np=(tW s).length/\fd.ns=(aY (av s)).length
def wK (K:Frag):List (Str×Nat)->List (Str×Nat×Nat×Nat)->Prop
 | [],[]=>True
 | (x,g)::l,(m,t,i,c)::r=>(∃fd,tab[g]?=some fd/\nsIn K mainGlobals x=some (some (.ref (c+1)))/\Cn K x x (top i) m t c fd)/\wK K l r
 | _,_=>False
theorem xA (X:K.In h) (G:h.Ns mainGlobals mg):∀(l:List (Str×Nat)) (r:List (Str×Nat×Nat×Nat)),(∀p∈l,gx.dfl.lookup p.1=none)->wK K l r->∀p∈l,DefIn K mg gx tab 60 p.1 p.2∨LdIn K mg gx tab 60 p.1 p.2
 | [],[],_,_=>λ_ z=>nomatch z
 | (x,g)::l,(m,t,i,c)::r,nd,⟨⟨fd,tt,a,l',cc,k,b,sc,cs,np,ns⟩,z⟩=>fc (.inl ⟨⟨c+1,_,top i,_,fd,mg_of X G a,pz (iL (st:=top i) l' cc k),(iL (st:=top i) l' cc k).binds b,j6 sc,cs,tt,np,ns,λm_ d_ e=>nomatch ((nd (x,g) dF).symm.trans e)⟩⟩) (xA X G l r (λp hp=>nd p (dq _ hp)) z)
theorem qQg {x:Str}{m m_:Nat}{d d_:Int}(h:gx.dfl.lookup x=some (m,d)) {p:Int->Prop}(hp:p d) (e:gx.dfl.lookup x=some (m_,d_)):p d_:=by
 rw [h] at e
 cases e
 exact hp
theorem qT2 (X:K.In h) (G:h.Ns mainGlobals mg) {x:Str}(m:Str) (t:Tok) (i f c d:Nat) {g:Nat}(ps:List Str) (fd:Fd) (tt:tab[g]?=some fd) (b:∀(s:Shared) (us:List Value),K.In s.heap->(us++[]).length=ps.length->BindsTo s (fnOf x x (dR (top i)) (bJ (top i)) (av (top i)) (.ref d) .none .none (.str m t) none (.ref c) .none) ⟨us,[]⟩ (ps.zip (us++[]))) (dd:∀m_ d_,gx.dfl.lookup x=some (m_,d_)->∃t_,Binds K (fnOf x x (dR (top i)) (bJ (top i)) (av (top i)) (.ref d) .none .none (.str m t) none (.ref c) .none) ps [.int d_ t_]) (a:nsIn K mainGlobals x=some (some (.ref f))) (l:K.lookup f=some (B5 x x (top i) m t c d)) (cc:codeIn K (.ref c) x=true) (k:keepIn K (.ref f)=true) (sc:lF (top i) ps=true) (cs:cq (top i)=some fd.body) (np:fd.np=ps.length) (ns:fd.ns=(aY (av (top i))).length):DefIn K mg gx tab 60 x g∨LdIn K mg gx tab 60 x g:=
 .inl ⟨⟨f,_,top i,ps,fd,mg_of X G a,⟨⟨_,_,_,_,_,_,_,_,_,_,rfl,l,cc⟩,k⟩,b,j6 sc,cs,tt,np,ns,dd⟩⟩
abbrev vV (K:Frag) (n m:Str) (s:Stmt) (C c i:Nat) (ns:List Str):Prop:=∃fd,tab[i]?=some fd/\(findIn K (.ref C) m=some (some (.ref (c+1)))/\isFn K (.ref (c+1))=true)/\Cn K m (n++"."++m) s mG mT c fd/\m∉ns
abbrev IOk (K:Frag) (n:Str) (s:Stmt) (C c:Nat) (ns:List Str):Prop:=makesIn K C=true/\findIn K (.ref C) "__init__"=some (some (.ref (c+1)))/\isFn K (.ref (c+1))=true/\K.lookup (c+1)=some (fo "__init__" (n++".__init__") s mG mT c)/\codeIn K (.ref c) (n++".__init__")=true/\keepIn K (.ref (c+1))=true/\Bd "__init__" (n++".__init__") s ("self"::ns)/\lF s ("self"::ns)=true/\iG (av s) (aY (av s)) 0 ns (bJ s)=true/\ns.length<1000
def wJ (K:Frag):List (Str×Nat×Nat×Nat×List Str)->Prop
 | []=>True
 | (n,j,C,i,ns)::r=>(nsIn K mainGlobals n=some (some (.ref C))/\(plainGet K C Str.empty=true/\hasDictIn K C=true/\plainOver K C=true/\findIn K (.ref C) "__setattr__"=some (some (.builtin "object.__setattr__")))/\keepIn K (.ref C)=true/\ns.Nodup/\ns.map (findIn K (.ref C))=ns.map (λ_=>some none) /\
  IOk K n (dS j 0) C (C - 25) ns/\vV K n "suits" (dS j 1) C (C - 18) i ns/\vV K n "verdict" (dS j 2) C (C - 11) (i+1) ns)/\wJ K r
theorem sV {α β:Type}{f:α->Option (Option β)}:∀{l:List α},l.map f=l.map (λ_=>some none)->∀x∈l,f x=some none
 | [],_=>λ_ z=>nomatch z
 | _::_,h=>fc (List.cons.inj h).1 (sV (List.cons.inj h).2)
theorem oa (X:K.In h) (G:h.Ns mainGlobals mg) {n m:Str}{s:Stmt}{C c i:Nat}{ns:List Str}(a:nsIn K mainGlobals n=some (some (.ref C))) (I:oN K C ns) (L:Cls K C) (N:∀f∈ns,NoAttr K C f) (nd:ns.Nodup) (z:vV K n m s C c i ns):MthIn K mg gx tab 60 n m i C ns:=
 let ⟨fd,t,⟨f1,f2⟩,⟨l,cc,k,b,sc,cs,np,n2⟩,hn⟩:=z
 ⟨⟨c+1,_,s,_,_,fd,mg_of X G a,I,L,N,⟨f1,f2,k⟩,pz (iL (st:=s) l cc k),(iL (st:=s) l cc k).binds b,j6 sc,cs,t,np,n2,hn,nd⟩⟩
theorem oH (X:K.In h) (G:h.Ns mainGlobals mg):∀r:List (Str×Nat×Nat×Nat×List Str),wJ K r->∀u∈ue r,MthIn K mg gx tab 60 u.c u.m u.i u.kn.c u.kn.ns
 | [],_=>λ_ z=>nomatch z
 | (n,j,C,i,ns)::r,⟨⟨a,⟨l1,l2,l3,l4⟩,kp,nd,N,⟨m1,m2,m3,l,cc,k,b,sc,ib,nl⟩,v1,v2⟩,z⟩ =>
  have I:oN K C ns:=.inl ⟨_,_,dS j 0,_,_,⟨m1,m2,m3,kp⟩,pz (iL (st:=dS j 0) l cc k),(iL (st:=dS j 0) l cc k).binds b,j6 sc,ib,rfl,nl⟩
  fc (oa X G a I ⟨l1,l2,l3,l4⟩ (sV N) nd v1) (fc (oa X G a I ⟨l1,l2,l3,l4⟩ (sV N) nd v2) (oH X G r z))
end
section
variable {h:Heap}{mg:Str->Option Value}{P:Params}(X:(heap P).In h) (G:h.Ns mainGlobals mg)
include X G
theorem hLd:LdIn (heap P) mg gx tab 60 "want_cut" 30:=by
 have l:(heap P).lookup 222=some (fo "want_cut" "want_cut" (top 35) mD 396 221):=by kernel_rfl
 refine⟨⟨222,221,top 35,["top","want","beat"],f_want_cut,_,_,_,_,_,_,_,_,_,"cut_from",⟨90,11,90,19⟩,⟨90,11,90,70⟩,⟨90,4,90,70⟩,.Name "top" ⟨90,20,90,23⟩,.Tuple [] 0 ⟨90,25,90,27⟩,V0,.tup [],29,97,[2,1],rj,mg_of X G ?_,?_,l,(iL (st:=top 35) l ?_ ?_).binds ?_,?_,?_,⟨4,_,mg_of X G ?_,by decide,by decide,by decide,(by kernel_rfl:(heap P).lookup 4=some { cls:=.type "module",dict:=some 0,data:=.plain }),rfl,rfl,rfl⟩,j6 ?_,?_,?_,?_,?_,?_,?_,?_,?_,?_,?_,?_,AN ?_,?_,?_,λenv=>?_,?_⟩⟩
 all_goals first|kernel_rfl|exact λ_ _ _ _ _ _=>vT rfl λ_=>rfl|exact λ_ _ _ _ _ _=>vS rfl λ_ _=>rfl|exact λ_ _ _ _ _ _=>p0 rfl λ_ _ _=>rfl|exact λ_ _ _ _ _ _=>vR rfl λ_ _ _ _=>rfl
theorem hd:∀p∈gx.defs,DefIn (heap P) mg gx tab 60 p.1 p.2∨LdIn (heap P) mg gx tab 60 p.1 p.2:=by
 refine fc (.inr (hLd X G)) ( fc (qT2 X G mD 396 40 250 249 245 ["top","want","beat"] f_all_that t35 (λs us hK hl=>qS (P:=λus=>BindsTo s _ ⟨us,[]⟩ (List.zip ["top","want","beat"] (us++[]))) (λ_ _ _=>BindsTo.of_defaults rfl (hK 245 ({ cls:=.type "tuple",data:=.seq #[.int 0 469] }) (by kernel_rfl)) rfl rfl rfl) us (by simpa using hl)) (λ_ _ e=>qQg (x:="all_that") (m:=2) (d:=0) (by kernel_rfl) (p:=λd=>∃t,Binds _ _ _ [.int d t]) ⟨469,(λs us hK hl=>qT (P:=λus=>BindsTo s _ ⟨us,[]⟩ (List.zip ["top","want","beat"] (us++[.int 0 469]))) (λ_ _=>BindsTo.of_defaults rfl (hK 245 ({ cls:=.type "tuple",data:=.seq #[.int 0 469] }) (by kernel_rfl)) rfl rfl rfl) us (by simpa using hl))⟩ e) ?_ ?_ ?_ ?_ ?_ ?_ ?_ ?_) ( (xA X G _ [(mA,194,2,27),(mA,194,3,34),(mA,194,4,41),(mA,194,5,46),(mA,194,6,51),(mA,194,7,56),(mA,194,8,61),(mB,244,10,68),(mB,244,11,75),(mB,244,12,82),(mB,244,13,89),(mB,244,14,96),(mB,244,15,103),(mB,244,16,110),(mB,244,17,117),(mB,244,18,124),(mB,244,19,131),(mB,244,20,138),(mB,244,21,145),(mB,244,22,152),(mB,244,23,159),(mC,351,25,166),(mC,351,26,173),(mC,351,27,180),(mC,351,28,185),(mC,351,29,192),(mC,351,30,199),(mD,396,33,207),(mD,396,34,214),(mD,396,36,226),(mD,396,37,231),(mD,396,38,238),(mD,396,39,243),(mE,476,42,256),(mE,476,43,263),(mE,476,44,270),(mE,476,45,275),(mE,476,46,280),(mE,476,47,285),(mF,520,49,292),(mF,520,50,299),(mF,520,51,306),(mG,556,53,313),(mG,556,54,320),(mG,556,55,327),(mG,556,56,334),(mG,556,57,341),(mG,556,58,348),(mH,1261,73,863),(mH,1261,74,870),(mH,1261,75,877),(mH,1261,76,884),(mH,1261,77,889),(mH,1261,78,894),(mH,1261,79,899),(mH,1261,80,906),(mH,1261,81,913),(mH,1261,82,920),(mH,1261,83,927),(mH,1261,84,934),(mH,1261,85,941),(mH,1261,86,948),(mH,1261,87,955),(mH,1261,88,960),(mH,1261,89,967),(mH,1261,90,974),(mH,1261,91,979),(mH,1261,92,986),(mH,1261,93,993),(mH,1261,94,998)] (by decide +kernel) ?zz) ))
 case' zz=>skip
 repeat' first|exact True.intro|refine And.intro ⟨_,rfl,?_,?_,?_,?_,?_,?_,?_,?_,?_⟩ ?_
 all_goals first|kernel_rfl|exact λ_ _ _ _ _ _=>vT rfl λ_=>by kernel_rfl|exact λ_ _ _ _ _ _=>vS rfl λ_ _=>by kernel_rfl|exact λ_ _ _ _ _ _=>p0 rfl λ_ _ _=>by kernel_rfl|exact λ_ _ _ _ _ _=>vR rfl λ_ _ _ _=>by kernel_rfl|exact λ_ _ _ _ _ _=>bd5 rfl λ_ _ _ _ _=>by kernel_rfl|exact λ_ _ _ _ _ _=>bd6 rfl λ_ _ _ _ _ _=>by kernel_rfl|exact λ_ _ _ _ _ _=>bd7 rfl λ_ _ _ _ _ _ _=>by kernel_rfl
theorem hb:∀x∈bP,mg x=none:=by
 refine fc (mg_none_of X G ?_) (fc (mg_none_of X G ?_) (fc (mg_none_of X G ?_) (fc (mg_none_of X G ?_) (fc (mg_none_of X G ?_) (fc (mg_none_of X G ?_) (fc (mg_none_of X G ?_) (fc (mg_none_of X G ?_) (fc (mg_none_of X G ?_) (fc (mg_none_of X G ?_) (fc (mg_none_of X G ?_) (fc (mg_none_of X G ?_) (fc (mg_none_of X G ?_) (fc (mg_none_of X G ?_) (fc (mg_none_of X G ?_) (fc (mg_none_of X G ?_) (fc (mg_none_of X G ?_) (fc (mg_none_of X G ?_) (λ_ h=>nomatch h))))))))))))))))))
 all_goals kernel_rfl
theorem pZ:∀u∈gx.meth,MthIn (heap P) mg gx tab 60 u.c u.m u.i u.kn.c u.kn.ns:=by
 have I:oN (heap P) 415 []:=.inr ⟨rfl,⟨by kernel_rfl,by kernel_rfl,by kernel_rfl⟩⟩
 have L:Cls (heap P) 415:=⟨by kernel_rfl,by kernel_rfl,by kernel_rfl,by kernel_rfl⟩
 have a:nsIn (heap P) mainGlobals "Anything"=some (some (.ref 415)):=by kernel_rfl
 refine fc (oa X G (n:="Anything") (m:="suits") (s:=dS 60 0) (c:=415 - 18) a I L (λ_ h=>nomatch h) .nil ⟨_,rfl,⟨?_,?_⟩,⟨?_,?_,?_,?_,?_,?_,?_,?_⟩,?_⟩) (fc (oa X G (n:="Anything") (m:="verdict") (s:=dS 60 1) (c:=415 - 11) a I L (λ_ h=>nomatch h) .nil ⟨_,rfl,⟨?_,?_⟩,⟨?_,?_,?_,?_,?_,?_,?_,?_⟩,?_⟩) (oH X G gm ?zz))
 case zz =>
  repeat' first|exact True.intro|refine And.intro ⟨?_,⟨?_,?_,?_,?_⟩,?_,?_,?_,⟨?_,?_,?_,?_,?_,?_,?_,?_,?_,?_⟩,⟨_,rfl,⟨?_,?_⟩,⟨?_,?_,?_,?_,?_,?_,?_,?_⟩,?_⟩,⟨_,rfl,⟨?_,?_⟩,⟨?_,?_,?_,?_,?_,?_,?_,?_⟩,?_⟩⟩ ?_
  all_goals first|kernel_rfl|decide|exact λ_ _ _ _ _ _=>vT rfl λ_=>by kernel_rfl|exact λ_ _ _ _ _ _=>vS rfl λ_ _=>by kernel_rfl|exact λ_ _ _ _ _ _=>p0 rfl λ_ _ _=>by kernel_rfl|exact λ_ _ _ _ _ _=>vR rfl λ_ _ _ _=>by kernel_rfl
 all_goals first|kernel_rfl|decide|exact λ_ _ _ _ _ _=>p0 rfl λ_ _ _=>by kernel_rfl
end
theorem iQ:∀j L,lamX.lookup j=some L->LamIn gx tab 60 j L:=by
 intro j L h
 have e:=yaP.mp (show (j,L)∈[(97,rj)] from tM h)
 cases e
 refine⟨⟨"told",(.call 28 [V2,V0,V1]),xO,?_,?_,?_,?_,?_,?_,λi z=>(nomatch z),?_,?_,?_,?_,?_,?_,λclos pm c ctv uv=>?_⟩⟩
 all_goals first|kernel_rfl|decide +kernel
theorem dz:∀u∈gx.meth,u.kn.c<CL:=by decide +kernel
theorem mQ {l:Program}{w:World}{h:Heap}{mg:Str->Option Value}(X:(heap w.params).In h) (G:h.Ns mainGlobals mg):CnD l w (heap w.params) mg gx:=by
 refine⟨λx i h=>(nomatch h),λx kvs h=>?_⟩
 have e:=yaP.mp (show (x,kvs)∈([("WORDS",("none","shut")::("every","whole")::("open","open")::[])]:List (Str×List (Str×Str))) from dj h)
 cases e
 refine⟨⟨201,dc (en w.params "none" 398 (.str ("shut") 399)::en w.params "every" 400 (.str ("whole") 401)::en w.params "open" 402 (.str ("open") 403)::[]) 3,(.inr "none",.str "shut" 399)::(.inr "every",.str "whole" 401)::(.inr "open",.str "open" 403)::[],mg_of X G ?_,?_,⟨_,_,⟨rfl,rfl,rfl⟩,rfl,?_,?_,?_⟩,?_⟩⟩
 ·kernel_rfl
 ·kernel_rfl
 ·intro e he
  simp at he
  rcases he with rfl|rfl|rfl
  ·exact⟨.inr "none",rfl,rfl⟩
  ·exact⟨.inr "every",rfl,rfl⟩
  ·exact⟨.inr "open",rfl,rfl⟩
 ·exact .cons rfl rfl (.cons rfl rfl (.cons rfl rfl (.nil)))
 ·decide +kernel
 ·exact .cons ⟨rfl,⟨_,rfl⟩⟩ (.cons ⟨rfl,⟨_,rfl⟩⟩ (.cons ⟨rfl,⟨_,rfl⟩⟩ (.nil)))
theorem fin {l:PySem.W.OpenLaw}{w:World}{h:Heap}{mg:Str->Option Value}{fa:Addr}(X:(heap w.params).In h) (G:h.Ns mainGlobals mg) (hfa:mg "law"=some (.ref fa)):∃fd:FuncData,(∀(s:Shared) (v:Value),BindsTo s fd ⟨[v],[]⟩ [("script",v)])/\∀base:Heap,(heap w.params).In base->base.Ns mainGlobals mg->FnOk l.prog w (heap w.params) mg base dJ 29 fa fd ["script"] (cz (heap w.params) 1 (aC tab 27 72)):=by
 have e:=hfa.symm.trans (mg_of X G (n:="law") (v:=.ref 999) (by kernel_rfl))
 cases e
 have l0:(heap w.params).lookup 999=some (fo "law" "law" (top 94) mH 1261 998):=by kernel_rfl
 exact⟨_,λs v=>.of_eq rfl,λbase kb _=>sC (fuel:=60) zf (hb X G) (mQ X G) dz (stp zf (hb X G) (mQ X G) dz kb (λx i h=>hd X G (x,i) (dj h)) (pZ X G) iQ 26) (x:="law") (qn:="law") (st:=top 94) (ps:=["script"]) (fd:=f_law) (pz (iL (st:=top 94) l0 (by kernel_rfl) (by kernel_rfl))) (j6 (by kernel_rfl)) (by kernel_rfl) t72 rfl (by kernel_rfl)⟩
end Dw.K37
open PySem PySem.W PyProof.Rows
set_option maxRecDepth 100000 in
set_option maxHeartbeats 0 in
theorem PySem.Challenge.cw_driftwood_k37_one_leaf_holds : PySem.Challenge.rw_driftwood_k37_one_leaf.Holds := by
 rw [Dw.K37.lw_eq]
 w_on
 refine holds_law Dw.K37.said λsaid=>?_
 refine holds_open (q:=Dw.K37.q) (loose:=Dw.K37.lo) (Xt:=λs=>xlAt Dw.K37.q [] s&&recOk (RowW.records Dw.K37.lw.row.toRowW) s) (XP:=XL Dw.K37.q []) (Yf:=Hook.obs Dw.K37.hk) (Ya:=Hook.val Dw.K37.hk) (YP:=Hook.says Dw.K37.hk) (N:=8000) Dw.K37.hl (Hook.of Dw.K37.hk) (Hook.keeps Dw.K37.hk) (λs e=>xl_of s (Bool.and_eq_true_iff.mp e).1) XL.keeps (by rfl) (by rfl) (by rfl) (λs e=>recFacts_of (Bool.and_eq_true_iff.mp e).2) (by rfl) (by assumption) (by kernel_rfl) ⟨rfl,rfl,rfl,rfl,rfl,by kernel_rfl⟩ ?hw ?hc
 case hw=>w_witness2
 exact Dw.dw_walk (l:=Dw.K37.lw) (tab:=Dw.T.tab) (n:=27) (i:=72) (λns h w=>Dw.T.c_law37 0 ns h w) rfl rfl ⟨rfl,by decide,by decide⟩ (λw h Y=>PySem.W.km_in_of Y) (λt hm=>by have e:=yaP.mp (show t∈[_] from hm);subst e;rfl) (λw h Y t hm=>PySem.W.km_tabs_of Y t.1 (by have e:=yaP.mp (show t∈[_] from hm);subst e;decide)) (λw t hm=>by have e:=yaP.mp (show t∈[_] from hm);subst e;exact⟨⟨221,by kernel_rfl⟩,by kernel_rfl⟩) λw mg fa h KX G hmg=>Dw.K37.fin KX G hmg
