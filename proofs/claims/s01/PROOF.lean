import PyProof.Rows.All
import Wide.All
import OpenK.AllK
import Wide.FinOn
import PyProof.EqAt
import PyProof.EqKinds
import PyProof.TupleCall
import KE.BitLaws
import Open.SpecLaws
import KE.OsHead
import KE.OsGo
import PySem.Challenge.RW_versescan_s01_answers
set_option Elab.async false
set_option linter.all false
set_option maxRecDepth 100000
set_option maxHeartbeats 4000000
section
set_option hygiene false
local macro_rules|`(tactic| mleft)=>`(tactic| refine _root_.L2.hdG fun X_ g_=>?_)
local macro_rules|`(tactic| mright)=>`(tactic| (refine g_ ?_;clear g_ X_))
set_option hygiene true
theorem Mo {p:Prop} (h:p:=by decide +kernel):p:=h
theorem ao {p:Prop} (h:p:=by lia):p:=h
theorem aG {p:Prop} (h:p:=by decide):p:=h
theorem ay {p:Prop} (h:p:=by rfl):p:=h
theorem aP {p:Prop} (h:p:=by simp):p:=h
theorem aI {p:Prop} (h:p:=by first | exact Or.inl rfl | exact Or.inr rfl):p:=h
theorem aN {p:Prop} (h:p:=by exact hr.mono (by decide)):p:=h
theorem fK {p:Prop} (h:p:=by first|exact ⟨_,rfl⟩|exact ⟨_,_,rfl⟩|exact ⟨_,_,_,rfl⟩|exact ⟨_,_,_,_,rfl⟩|exact ⟨_,_,_,_,_,rfl⟩|exact ⟨_,_,_,_,_,_,rfl⟩|exact rfl):p:=h
theorem bR {p:Prop} (h:p:=by exact ⟨rfl,rfl,rfl,by decide +kernel,rfl,by decide +kernel,by decide +kernel⟩):p:=h
abbrev b7:=PySem.Value->PySem.Shared->Prop
abbrev bO:=List (PySem.Addr×PySem.Obj)
def cu:=@List.getElem?_eq_getElem
def bG:=@List.length_map
def cF:=@List.mem_cons_of_mem
def dE:=@List.getElem?_eq_some_iff
def dU:=@List.getD_eq_getElem?_getD
def bM:=@List.map_cons
def cM:=@List.getElem?_map
def df:=@List.mem_cons_self
def b0:=@List.mem_cons
def bS:=@List.mem_map
def cI:=@List.mem_of_getElem?
def bD:=@Nat.le_refl
def cT:=@List.length_cons
def bT:=@Nat.le_trans
def cf:=@List.map_map
def ee:=@List.length_append
def d8:=@Nat.lt_of_le_of_lt
def eE:=@Nat.lt_of_lt_of_le
def eu:=@List.size_toArray
def eG:=@List.take_length
def f9:=@Bool.false_ne_true
def dy:=@Nat.zero_le
def gN:=@Bool.and_eq_true
def oC:=@List.getElem?_append_right
def lM:=@Option.map_eq_some_iff
def iA:=@List.length_take
def g6:=@List.mem_filter
def iN:=@List.append_nil
def kZ:=@List.map_congr_left
def nz:=@List.getElem?_eq_none
def iL:=@Option.map_some
def kb:=@List.flatMap_cons
def jV:=@List.all_eq_true
def fZ:=@Nat.ne_of_lt
def uq:=@List.getElem?_append_left
def jK:=@List.map_append
def js:=@List.sum_cons
def nc:=@Int.toNat_natCast
def ni:=@List.filter_congr
def oN:=@Bool.false_eq_true
def oK:=@List.mem_singleton
def lV:=@List.mem_append
def lU:=@Bool.eq_iff_iff
def oH:=@List.length_nil
def um:=@List.mem_append_right
def xI:=@List.drop_eq_getElem_cons
def ng:=@List.foldl_cons
def rQ:=@List.cons_append
def rG:=@List.zip_cons_cons
def ub:=@List.filter_eq_self
def rD:=@List.append_assoc
def qD:=@List.nodup_cons
def vt:=@List.filterMap_cons
def yx:=@Nat.pow_le_pow_right
def Bs:=@List.getElem?_set_self
def vn:=@List.nil_append
def ra:=@List.filter_map
def qC:=@List.map_nil
def uC:=@Option.getD_some
def Ke:=@List.take_succ_eq_append_getElem
def ur:=@Option.bind_some
def KW:=@List.getElem?_cons_zero
def Kp:=@List.getElem?_cons_succ
def yD:=@List.contains_cons
def CJ:=@List.take_of_length_le
def yb:=@List.foldl_append
def vQ:=@Int.natCast_add
def xC:=@List.any_eq_true
def xJ:=@List.getElem_mem
def uo:=@Nat.lt_irrefl
def GC:=@List.filter_eq_nil_iff
def CG:=@List.flatMap_append
def GL:=@List.length_filter_le
def CF:=@List.filter_append
def wL:=@Nat.zero_add
def vk:=@List.any_cons
def G5:=@List.getElem?_set_ne
def Ec:=@List.length_range
def Pu:=@Nat.testBit_two_pow_sub_one
def Oi:=@Array.getElem?_eq_some_iff
def GS:=@List.filter_filter
def yA:=@Nat.le_of_eq
def xD:=@Nat.mul_comm
def CA:=@Bool.or_eq_true
def yp:=@Nat.pow_succ
def Gj:=@List.lookup_cons
def Gk:=@List.drop_length
def G3:=@List.mem_flatMap
def SY:=@List.countP_eq_length_filter
def Kw:=@Int.natCast_nonneg
def KG:=@List.pairwise_cons
def GZ:=@List.find?_cons
def F8:=@Nat.min_le_left
def PN:=@List.getElem?_of_mem
def Pt:=@List.mem_of_mem_take
def Uq:=@Option.isSome_iff_exists
def C7:=@Nat.add_zero
def Kn:=@Bool.not_eq_true
def OV:=@List.replicate_succ
def O1:=@Nat.mul_le_mul_left
def NP:=@List.filter_cons_of_pos
def Bb:=@Nat.add_assoc
def ED:=@List.of_mem_zip
def NM:=@List.range_succ_eq_map
def NR:=@List.zipWith_cons_cons
def UL:=@List.eq_nil_of_length_eq_zero
def Hw:=@List.nodup_append
def Et:=@List.mem_range
def Aw:=@Nat.ne_of_gt
def zU:=@Nat.add_comm
def AH:=@List.all_map
def Ay:=@Bool.or_true
def EV:=@List.drop_zero
def Ua:=@Nat.testBit_two_pow_mul_add
def ND:=@List.mem_append_left
def HX:=@List.map_flatMap
def Jk:=@List.zipIdx_cons
def NB:=@List.mem_of_mem_drop
def Eu:=@Nat.mul_assoc
def NG:=@List.getElem?_range
def Nb:=@List.take_succ_cons
def NF:=@List.getElem_of_mem
def NX:=@List.findSome?_cons
def HC:=@List.length_set
def Uc:=@List.getElem?_eq_none_iff
def JD:=@List.range_succ
def T8:=@List.getLast?_eq_getElem?
def IG:=@Bool.false_and
def UH:=@List.filter_cons_of_neg
def S6:=@List.length_eq_zero_iff
def M4:=@List.flatten_cons
def NS:=@Nat.le_of_succ_le
def NK:=@Nat.lt_succ_of_lt
def Nr:=@List.pairwise_map
def TY:=@List.drop_eq_nil_of_le
def Hz:=@List.all_cons
def IX:=@Bool.true_and
def Nd:=@Nat.lt_succ_self
def Nm:=@List.length_drop
def N6:=@List.filter_cons
def NT:=@List.isEmpty_nil
def Ng:=@Nat.min_le_right
def Td:=@List.take_append_drop
def SR:=@List.contains_iff_mem
def T9:=@Nat.eq_of_testBit_eq
def Nv:=@Nat.sub_self
def NQ:=@Nat.testBit_and
def Ul:=@List.count_eq_countP
def Nh:=@List.countP_map
def Tf:=@List.getElem?_zipIdx
def S7:=@Array.length_toList
def S8:=@List.filter_flatMap
def Ni:=@Bool.and_false
def M5:=@List.Perm.refl
def ZF:=@List.mem_zipIdx_iff_getElem?
def NL:=@List.foldl_nil
def UN:=@List.mem_filterMap
def ZK:=@Int.fdiv_eq_ediv_of_nonneg
def Np:=@Bool.false_or
def US:=@Nat.lt_trichotomy
def YT:=@Bool.not_eq_true'
def YM:=@List.exists_mem_of_ne_nil
def Zn:=@Nat.shiftRight_eq_div_pow
def YQ:=@List.getLast?_eq_none_iff
def Nj:=@Nat.le_of_lt
def UY:=@List.getElem_inj
def M9:=@List.any_map
def T7:=@List.flatMap_map
def NJ:=@Nat.sub_zero
def Zg:=@List.eq_of_mem_replicate
def Uu:=@Int.natCast_emod
def Zw:=@List.length_filterMap_le
def Y2:=@List.getElem?_replicate
def Zs:=@Int.eq_ofNat_of_zero_le
def TV:=@Int.natCast_mul
def T3:=@List.filter_nil
def Ue:=@List.sum_append
def NH:=@Nat.mul_add
def Zd:=@List.sum_replicate_nat
def ab9:=@List.length_replicate
def S1:=@List.forIn_nil
def Up:=@List.nodup_nil
def Te:=@Nat.testBit_or
def Zc:=@List.eq_replicate_iff
def YJ:=@Bool.and_eq_true_iff
def YG:=@List.count_cons_self
def ZC:=@Bool.or_eq_false_iff
def ZN:=@List.drop_eq_nil_iff
def YD:=@Nat.mul_le_mul_right
def SS:=@List.map_take
def Zu:=@List.length_reverse
def YL:=@List.drop_succ_cons
def ZG:=@Nat.testBit_two_pow
def ZO:=@List.getD_cons_succ
def Zh:=@Option.some_ne_none
def ZL:=@List.length_flatMap
def YH:=@List.length_pos_iff
def ZA:=@Option.isSome_some
def UR:=@Nat.or_assoc
def Zq:=@List.count_eq_zero
def YR:=@List.getLast?_cons
def Tq:=@List.sum_nil
def ZM:=@Nat.one_le_two_pow
def Zt:=@Option.isNone_none
def YU:=@List.find?_eq_none
def adB:=@List.set_cons_zero
def adA:=@List.set_cons_succ
def TR:=@Nat.add_mul
def UG:=@Nat.one_mul
def ae:=@if_neg
def ag:=@if_pos
def aA:=@PySem.wpAny_bind
def cA:=@PySem.Heap.get?_push_of_some
def bf:=@PySem.wpAny_pure
def cp:=@Option.some.inj
def bV:=@PySem.Heap.lt_size
def cO:=@PySem.PassesOwn.never
def dI:=@decide_eq_true_eq
def eR:=@PySem.Heap.get?_push_size
def bq:=@Ne.symm
def jC:=@PySem.F.plainAttrs_list
def gY:=@Option.some.injEq
def iT:=@PySem.wpAny_loadPart_at
def oj:=@PySem.F.slot_list_append
def oh:=@PySem.F.type_list_append
def ku:=@PySem.mem_of_lookup
def gD:=@Prod.mk.injEq
def jF:=@decide_eq_false
def sg:=@PySem.Heap.get?_update_other
def dB:=@if_true
def lJ:=@PySem.Heap.size_push
def uO:=@PySem.Heap.get?_update_self
def i5:=@PySem.wpAny_mono
def mO:=@PySem.Paired.length
def gA:=@if_false
def lK:=@beq_iff_eq
def Ji:=@PyProof.Rows.callWith_type1
def AB:=@PySem.wpAny_isSubtype_exc
def Ey:=@PySem.Calls.callWith_builtin
def Af:=@PySem.Calls.spliced_cons
def EE:=@PySem.F.slot_dict_get
def Bj:=@PySem.Obj.data_mapFields
def IC:=@Classical.byContradiction
def qh:=@PySem.wpAny_field
def Nw:=@PySem.wpAny_typeNameOfWhole_itemiter
def z8:=@PySem.wpAny_newObj_type
def Ab:=@Function.comp_def
def Ny:=@PySem.F.slot_dict_itemiterator_next
def wQ:=@decide_eq_true
def lr:=@congrFun
def Aj:=@PySem.wpAny_passesOwn
def JF:=@PySem.Obj.isFreed_of_fields
def mR:=@congrArg
def wX:=@PySem.wpAny_holding
def EX:=@PySem.wpAny_truthy_bool
def EB:=@PySem.wpAny_Call_method
def Iz:=@PySem.Calls.evalArgs_plain
def N4:=@PySem.F.excBase_Exception
def NO:=@PySem.wpAny_typeNameOf_itemiter
def EW:=@beq_self_eq_true
def S3:=@PySem.plainObj_wpAny_Assign_Attribute
def M7:=@PySem.F.plainAttrs_dict
def AS:=@PySem.wpAny_standAt
def IP:=@PySem.wpAny_Call_Name_kw
def Hr:=@PySem.wpAny_setField_rec
def N2:=@PySem.F.entry_dict_get
def Nf:=@PySem.wpAny_isOneOf_itemiter
def HF:=@PySem.Calls.spliced_nil
def HN:=@PySem.wpAny_dictEntries
def wV:=@PySem.call_meets
def Nc:=@PySem.Heap.SameBut.extBut
def Js:=@PySem.wpAny_execs_nil
def Hu:=@PySem.W.methodCall_KW
def Ia:=@PySem.pushCells_keeps
def JK:=@beq_false_of_ne
def NC:=@PySem.tupleKind_room_in1
def Jb:=@PySem.wpAny_setField
def T5:=@decide_eq_false_iff_not
def N0:=@PySem.F.slot_dict_items
def Nu:=@PySem.wpAny_call_entry
def Il:=@PySem.codeAny_mono
def Ij:=@PySem.W.callWith_K
def Jg:=@PySem.call_meetsIn
def S0:=@PySem.codeAny_call_builtin
def Tw:=@PySem.evalArgs_none
def TQ:=@PySem.Heap.SameBut.update
def NY:=@PySem.wpAny_fieldsOf
def IS:=@PySem.sizeLine_eq
def IT:=@Prod.mk.inj
def UU:=@PySem.wpAny_assign_Name
def HV:=@PySem.wpAny_call
def T6:=@PySem.wpAny_dictEpoch
def UD:=@PySem.size_of_entries
def Tu:=@PySem.W.plainGet_of
def To:=@PySem.evalPart_some
def UP:=@PySem.wpAny_noRaise
def Uw:=@List.cons.inj
namespace L2
inductive X2{A0 A1:Type}(p:A0->A1->Prop):Prop|mk (x0:A0) (x1:A1) (h:p x0 x1)
inductive X3{A0 A1 A2:Type}(p:A0->A1->A2->Prop):Prop|mk (x0:A0) (x1:A1) (x2:A2) (h:p x0 x1 x2)
inductive X4{A0 A1 A2 A3:Type}(p:A0->A1->A2->A3->Prop):Prop|mk (x0:A0) (x1:A1) (x2:A2) (x3:A3) (h:p x0 x1 x2 x3)
inductive X5{A0 A1 A2 A3 A4:Type}(p:A0->A1->A2->A3->A4->Prop):Prop|mk (x0:A0) (x1:A1) (x2:A2) (x3:A3) (x4:A4) (h:p x0 x1 x2 x3 x4)
inductive X6{A0 A1 A2 A3 A4 A5:Type}(p:A0->A1->A2->A3->A4->A5->Prop):Prop|mk (x0:A0) (x1:A1) (x2:A2) (x3:A3) (x4:A4) (x5:A5) (h:p x0 x1 x2 x3 x4 x5)
inductive X7{A0 A1 A2 A3 A4 A5 A6:Type}(p:A0->A1->A2->A3->A4->A5->A6->Prop):Prop|mk (x0:A0) (x1:A1) (x2:A2) (x3:A3) (x4:A4) (x5:A5) (x6:A6) (h:p x0 x1 x2 x3 x4 x5 x6)
inductive X8{A0 A1 A2 A3 A4 A5 A6 A7:Type}(p:A0->A1->A2->A3->A4->A5->A6->A7->Prop):Prop|mk (x0:A0) (x1:A1) (x2:A2) (x3:A3) (x4:A4) (x5:A5) (x6:A6) (x7:A7) (h:p x0 x1 x2 x3 x4 x5 x6 x7)
inductive X9{A0 A1 A2 A3 A4 A5 A6 A7 A8:Type}(p:A0->A1->A2->A3->A4->A5->A6->A7->A8->Prop):Prop|mk (x0:A0) (x1:A1) (x2:A2) (x3:A3) (x4:A4) (x5:A5) (x6:A6) (x7:A7) (x8:A8) (h:p x0 x1 x2 x3 x4 x5 x6 x7 x8)
inductive X10{A0 A1 A2 A3 A4 A5 A6 A7 A8 A9:Type}(p:A0->A1->A2->A3->A4->A5->A6->A7->A8->A9->Prop):Prop|mk (x0:A0) (x1:A1) (x2:A2) (x3:A3) (x4:A4) (x5:A5) (x6:A6) (x7:A7) (x8:A8) (x9:A9) (h:p x0 x1 x2 x3 x4 x5 x6 x7 x8 x9)
inductive X11{A0 A1 A2 A3 A4 A5 A6 A7 A8 A9 A10:Type}(p:A0->A1->A2->A3->A4->A5->A6->A7->A8->A9->A10->Prop):Prop|mk (x0:A0) (x1:A1) (x2:A2) (x3:A3) (x4:A4) (x5:A5) (x6:A6) (x7:A7) (x8:A8) (x9:A9) (x10:A10) (h:p x0 x1 x2 x3 x4 x5 x6 x7 x8 x9 x10)
inductive X12{A0 A1 A2 A3 A4 A5 A6 A7 A8 A9 A10 A11:Type}(p:A0->A1->A2->A3->A4->A5->A6->A7->A8->A9->A10->A11->Prop):Prop|mk (x0:A0) (x1:A1) (x2:A2) (x3:A3) (x4:A4) (x5:A5) (x6:A6) (x7:A7) (x8:A8) (x9:A9) (x10:A10) (x11:A11) (h:p x0 x1 x2 x3 x4 x5 x6 x7 x8 x9 x10 x11)
inductive X15{A0 A1 A2 A3 A4 A5 A6 A7 A8 A9 A10 A11 A12 A13 A14:Type}(p:A0->A1->A2->A3->A4->A5->A6->A7->A8->A9->A10->A11->A12->A13->A14->Prop):Prop|mk (x0:A0) (x1:A1) (x2:A2) (x3:A3) (x4:A4) (x5:A5) (x6:A6) (x7:A7) (x8:A8) (x9:A9) (x10:A10) (x11:A11) (x12:A12) (x13:A13) (x14:A14) (h:p x0 x1 x2 x3 x4 x5 x6 x7 x8 x9 x10 x11 x12 x13 x14)
inductive Y3(a0 a1 a2:Prop):Prop|mk (h0:a0) (h1:a1) (h2:a2)
inductive Y4(a0 a1 a2 a3:Prop):Prop|mk (h0:a0) (h1:a1) (h2:a2) (h3:a3)
inductive Y5(a0 a1 a2 a3 a4:Prop):Prop|mk (h0:a0) (h1:a1) (h2:a2) (h3:a3) (h4:a4)
inductive Y6(a0 a1 a2 a3 a4 a5:Prop):Prop|mk (h0:a0) (h1:a1) (h2:a2) (h3:a3) (h4:a4) (h5:a5)
inductive Y7(a0 a1 a2 a3 a4 a5 a6:Prop):Prop|mk (h0:a0) (h1:a1) (h2:a2) (h3:a3) (h4:a4) (h5:a5) (h6:a6)
inductive Y8(a0 a1 a2 a3 a4 a5 a6 a7:Prop):Prop|mk (h0:a0) (h1:a1) (h2:a2) (h3:a3) (h4:a4) (h5:a5) (h6:a6) (h7:a7)
inductive Y9(a0 a1 a2 a3 a4 a5 a6 a7 a8:Prop):Prop|mk (h0:a0) (h1:a1) (h2:a2) (h3:a3) (h4:a4) (h5:a5) (h6:a6) (h7:a7) (h8:a8)
inductive YB(a0 a1 a2 a3 a4 a5 a6 a7 a8 a9:Prop):Prop|mk (h0:a0) (h1:a1) (h2:a2) (h3:a3) (h4:a4) (h5:a5) (h6:a6) (h7:a7) (h8:a8) (h9:a9)
inductive Y11(a0 a1 a2 a3 a4 a5 a6 a7 a8 a9 a10:Prop):Prop|mk (h0:a0) (h1:a1) (h2:a2) (h3:a3) (h4:a4) (h5:a5) (h6:a6) (h7:a7) (h8:a8) (h9:a9) (h10:a10)
inductive Y12(a0 a1 a2 a3 a4 a5 a6 a7 a8 a9 a10 a11:Prop):Prop|mk (h0:a0) (h1:a1) (h2:a2) (h3:a3) (h4:a4) (h5:a5) (h6:a6) (h7:a7) (h8:a8) (h9:a9) (h10:a10) (h11:a11)
inductive Y13(a0 a1 a2 a3 a4 a5 a6 a7 a8 a9 a10 a11 a12:Prop):Prop|mk (h0:a0) (h1:a1) (h2:a2) (h3:a3) (h4:a4) (h5:a5) (h6:a6) (h7:a7) (h8:a8) (h9:a9) (h10:a10) (h11:a11) (h12:a12)
theorem hdG{G:Prop}(h:∀X:Prop,(G->X)->X):G:=h G id
end L2
namespace L2
open PySem PySem.Spec PyProof.Rows
abbrev Key:=Sum Int Str
def xl:Key->Value->Bool
 |.inl k,v=>Value.isInt k v
 |.inr x,v=>Value.isStrOf x v
def adb(w:World):Key->Int
 |.inl k=>hashInt k
 |.inr x=>hashStr w x
theorem ff:∀{k:Key} {v:Value},xl k v=true->(∃i t,k=Sum.inl i/\v=Value.int i t)\/(∃x t,k=Sum.inr x/\v=Value.str x t)
 |.inl i,v,h=>by
  obtain⟨t,e⟩:=Value.isInt_shape (k:=i) (v:=v) h;exact .inl ⟨i,t,rfl,e⟩
 |.inr x,v,h=>by
  obtain⟨t,e⟩:=Value.isStrOf_shape (x:=x) (v:=v) h;exact .inr ⟨x,t,rfl,e⟩
theorem Vh(i:Int)(t:Tok):xl (.inl i) (.int i t)=true:=by simp[xl,Value.isInt]
theorem Wq(x:Str)(t:Tok):xl (.inr x) (.str x t)=true:=by simp[xl,Value.isStrOf]
theorem abL(a b:Int):decide ((Sum.inl a:Key)=Sum.inl b)=(a==b):=by
 by_cases e:a=b
 .subst e;simp
 have h:¬(Sum.inl a:Key)=Sum.inl b:=λq=>e (Sum.inl.inj q);rw[jF h];exact(beq_eq_false_iff_ne.mpr e).symm
theorem abQ(a b:Str):decide ((Sum.inr a:Key)=Sum.inr b)=decide (a=b):=by
 by_cases e:a=b
 .subst e;simp
 have h:¬(Sum.inr a:Key)=Sum.inr b:=λq=>e (Sum.inr.inj q);rw[jF h,jF e]
theorem aaX(a:Int)(b:Str):decide ((Sum.inl a:Key)=Sum.inr b)=false:=jF (λq=>nomatch q)
theorem aa3(a:Str)(b:Int):decide ((Sum.inr a:Key)=Sum.inl b)=false:=jF (λq=>nomatch q)
def cX(prog:Program)(w:World):PySem.KeyKind prog w Key where
 is:=xl
 hash:=adb w
 inj:=λv a b Q T=>by
  rcases ff Q with⟨i,t,rfl,rfl⟩|⟨x,t,rfl,rfl⟩
  .rcases ff T with⟨j,u,rfl,e⟩|⟨y,u,rfl,e⟩
   .injection e with Y _;rw[Y]
   exact nomatch e
  rcases ff T with⟨j,u,rfl,e⟩|⟨y,u,rfl,e⟩
  .exact nomatch e
  injection e with Y _;rw[Y]
 byValue:=λk v h=>by
  rcases ff h with⟨i,t,rfl,rfl⟩|⟨x,t,rfl,rfl⟩<;>rfl
 pyHash:=λU h=>by
  rcases ff U with⟨i,t,rfl,rfl⟩|⟨x,t,rfl,rfl⟩
  .exact wpAny_pyHash_int h
  exact wpAny_pyHash_str h
 eqBool:=λO U h=>by
  rcases ff O with⟨i,t,rfl,rfl⟩|⟨x,t,rfl,rfl⟩
  .rcases ff U with⟨j,u,rfl,rfl⟩|⟨y,u,rfl,rfl⟩
   .rw[abL]at h;exact wpAny_eqBool_int h
   rw[aaX]at h;exact SeqAt.EqAt.int_str i t y u _ _ _ _ h
  rcases ff U with⟨j,u,rfl,rfl⟩|⟨y,u,rfl,rfl⟩
  .rw[aa3]at h;exact SeqAt.EqAt.str_int x t j u _ _ _ _ h
  rw[abQ]at h;exact wpAny_eqBool_str h
 «strs»:=λk x t v h=>by
  rcases ff h with⟨i,u,rfl,e⟩|⟨y,u,rfl,e⟩
  .exact nomatch e
  injection e with Y _
  subst Y;cases v<;>rfl
theorem QM(prog:Program)(w:World)(i:Int)(t:Tok):(cX prog w).is (.inl i) (.int i t)=true:=Vh i t
theorem Q5(prog:Program)(w:World)(x:Str)(t:Tok):(cX prog w).is (.inr x) (.str x t)=true:=Wq x t
section
inductive V where
 |aX|bl (b:Bool)|int (i:Int)|str (x:Str)|qR (b:Array UInt8)|Zj (b:UInt64)|ref (a:Addr)|ty (n:String)
 deriving DecidableEq
def RelV:V->Value->Prop
 |.aX,u=>u=Value.none
 |.bl b,u=>u=Value.bool b
 |.int i,u=>∃t,u=Value.int i t
 |.str x,u=>∃t,u=Value.str x t
 |.qR b,u=>∃t,u=Value.bytes b t
 |.Zj b,u=>∃t,u=Value.float b t
 |.ref a,u=>u=Value.ref a
 |.ty n,u=>u=Value.type n
abbrev Vals:List V->List Value->Prop:=Paired RelV
theorem Vals.length{xs:List V}{us:List Value}(r:Vals xs us):xs.length=us.length:=mO r
theorem Vals.get:∀{xs:List V} {us:List Value} {i:Nat} {x:V},Vals xs us->xs[i]?=some x->∃u,us[i]?=some u/\RelV x u
 |_,_,_,_,.nil,e=>by simp at e
 |_,_,0,_,.cons r _,e=>by simp at e;subst e;exact⟨_,rfl,r⟩
 |_,_,i+1,x,.cons _ t,e=>by
  obtain⟨u,Y,U⟩:=Vals.get (i:=i) (x:=x) t (by simpa using e)
  exact⟨u,by simpa using Y,U⟩
theorem Vals.set{x:V}{u:Value}(r:RelV x u):∀{xs:List V} {us:List Value} (i:Nat),Vals xs us->Vals (xs.set i x) (us.set i u)
 |_,_,_,.nil=>.nil
 |_,_,0,.cons _ t=>.cons r t
 |_,_,i+1,.cons q t=>.cons q (Vals.set r i t)
theorem Vals.append:∀{xs ys:List V} {us Y:List Value},Vals xs us->Vals ys Y->Vals (xs++ys) (us++Y)
 |_,_,_,_,.nil,s=>s
 |_,_,_,_,.cons r t,s=>.cons r (Vals.append t s)
theorem Vals.take:∀{xs:List V} {us:List Value} (n:Nat),Vals xs us->Vals (xs.take n) (us.take n)
 |_,_,0,_=>.nil
 |_,_,_+1,.nil=>.nil
 |_,_,n+1,.cons r t=>.cons r (Vals.take n t)
theorem Vals.drop:∀{xs:List V} {us:List Value} (n:Nat),Vals xs us->Vals (xs.drop n) (us.drop n)
 |_,_,0,r=>r
 |_,_,_+1,.nil=>.nil
 |_,_,n+1,.cons _ t=>Vals.drop n t
def mD:Option V->Option Value->Prop
 |some v,some u=>RelV v u
 |none,none=>True
 |_,_=>False
def KV{κ:Type}:List (κ×V)->List (κ×Value)->Prop:=Paired λ(p:κ×V) (q:κ×Value)=>p.1=q.1/\RelV p.2 q.2
def kV:Key->V
 |.inl i=>.int i
 |.inr x=>.str x
inductive HO where
 |lst (xs:List V)
 |tup (xs:List V)
 |dK (kvs:List (Key×V))|dT (kvs:List (List Key×V))
 |set (S:Int->Bool) (n:Nat)
 |ins (C dx:Addr) (fs:List (Str×V))
 |own (x:Addr)
 |xd (fs:List (Str×V))
 |met (f x:Addr)
 |rng (lo hi:Int)
 |cV (o:Obj) (u:HO)
 |Pj (ps:Array Value)
 |ext (φ:Heap->Prop)
abbrev Hp:=Addr->Option HO
def upd(H:Hp)(a:Addr)(o:HO):Hp:=λb=>if b=a then some o else H b
theorem af{H:Hp}{a:Addr}{o:HO}:upd H a o a=some o:=by unfold upd;rw[ag rfl]
theorem aj{H:Hp}{a b:Addr}{o:HO}(h:b≠a):upd H a o b=H b:=by unfold upd;rw[ae h]
theorem fF{H:Hp}{a:Addr}{o u:HO}:upd (upd H a o) a u=upd H a u:=by
 funext b;unfold upd;split<;>rfl
theorem S2{H:Hp}{a b:Addr}{o u:HO}(h:H a=some o)(h':H b=some u)(d:o≠u):a≠b:=by
 intro e;subst e;rw[h]at h';exact d (cp h')
theorem aO{H:Hp}{a b:Addr}{o:HO}(h:H a=some o)(h':H b=none):a≠b:=by
 intro e;subst e;rw[h]at h';cases h'
section
variable(P:Program)(w:World)
def dH(H:Hp)(h:Heap)(a:Addr):HO->Prop
 |.lst xs=>xs.length<=sizeLine/\∃(Y:List Value) (n:Nat),Vals xs Y/\h.get? a=some { cls:=.type "list",data:=.seq Y.toArray n }
 |.tup xs=>xs.length<=sizeLine/\∃Y:List Value,Vals xs Y/\IsTup h a Y.toArray
 |.dK U=>U.length<=sizeLine/\(a==sysModules)=false/\∃vs,KV U vs/\h.DictOf (cX P w) a vs
 |.dT U=>U.length<=sizeLine/\(a==sysModules)=false/\∃xs:List (List Key×Addr×Value),
   Paired (λ(p:List Key×V) (q:List Key×Addr×Value)=>p.1=q.1/\H q.2.1=some (.tup (p.1.map kV))/\RelV p.2 q.2.2) U xs/\
   ∃o O L,h.get? a=some o/\o.ExactDict/\o.data=.dict O L/\O.toList=xs.map (entryOfKey (tupleKind (cX P w)))/\(xs.map (·.1)).Nodup
 |.set S n=>h.SetOf (intKind P w) a S n
 |.ins C Q fs=>H Q=some (.own a)/\fs.length<=1000/\Q≠a/\h.get? a=some (W.instObj C Q)/\
   ∃T,h.Ns1 Q T/\(∀f,mD (fs.lookup f) (T f))/\PySem.Within T (fs.map (·.1))
 |.own _=>∃o,h.get? a=some o
 |.xd fs=>∃T,h.Ns1 a T/\∀f,mD (fs.lookup f) (T f)
 |.rng lo J=>∃t u v,h.get? a=some { cls:=.type "range",data:=.fields #[.int lo t,.int J u,.int 1 v] }
 |.cV o u=>h.get? a=some o/\dH H h a u
 |.Pj ps=>h.get? a=some { cls:=.none,data:=.fields ps }
 |.met f x=>h.get? a=some (W.methodObj (.ref f) (.ref x))
 |.ext φ=>φ h/\(∃o,h.get? a=some o)/\∀N M:Heap,φ N->(∀o,N.get? a=some o->M.get? a=some o)->φ M
def fH(H:Hp)(h:Heap):Prop:=∀a o,H a=some o->dH P w H h a o
end
section
variable{P:Program}{w:World}{H H':Hp}{h h':Heap}{a:Addr}{o:HO}
theorem dH.lt(x:dH P w H h a o):a<h.objs.size:=by
 cases o with
 |lst xs=>obtain⟨_,_,_,_,e⟩:=x;exact bV e
 |tup xs=>obtain⟨_,_,_,p⟩:=x;exact p.lt
 |dK Y=>obtain⟨_,_,_,_,o,_,_,e,_⟩:=x;exact bV e
 |dT Y=>obtain⟨_,_,_,_,o,_,_,e,_⟩:=x;exact bV e
 |set S n=>obtain⟨o,_,_,_,e,_⟩:=x;exact bV e
 |ins C U fs=>obtain⟨_,_,_,e,_⟩:=x;exact bV e
 |own y=>obtain⟨_,e⟩:=x;exact bV e
 |xd fs=>obtain⟨_,⟨_,_,_,e,_⟩,_⟩:=x;exact bV e
 |rng lo T=>obtain⟨_,_,_,e⟩:=x;exact bV e
 |cV Q u=>obtain⟨e,_⟩:=x;exact bV e
 |Pj ps=>exact bV (show h.get? a=some _ from x)
 |met f y=>exact bV (show h.get? a=some _ from x)
 |ext φ=>obtain⟨_,⟨_,e⟩,_⟩:=x;exact bV e
theorem Paired.Ti{α β:Type}{F G:α->β->Prop}:∀{Y:List α} {U:List β},Paired F Y U->(∀a b,F a b->G a b)->Paired G Y U
 |_,_,.nil,_=>.nil
 |_,_,.cons r t,f=>.cons (f _ _ r) (Paired.Ti t f)
theorem dH.lq(x:dH P w H h a o)(k:∀b u,(b=a\/H b=some (.own a))->h.get? b=some u->h'.get? b=some u)
  (L:∀b,H b=some (.own a)->H' b=some (.own a)) (J:∀b xs,H b=some (.tup xs)->H' b=some (.tup xs)):dH P w H' h' a o:=by
 induction o with
 |lst xs=>obtain⟨z,Q,n,r,e⟩:=x;exact⟨z,Q,n,r,k _ _ (.inl rfl) e⟩
 |tup xs=>obtain⟨z,Q,r,Y,e,c⟩:=x;exact⟨z,Q,r,Y,k _ _ (.inl rfl) e,c⟩
 |dK O=>obtain⟨z,y,vs,r,Y,U,T,e,c⟩:=x;exact⟨z,y,vs,r,Y,U,T,k _ _ (.inl rfl) e,c⟩
 |dT O =>
  mleft;obtain⟨z,y,xs,r,Y,U,T,e,c⟩:=x;mright;exact⟨z,y,xs,Paired.Ti r λp q z=>⟨z.1,J _ _ z.2.1,z.2.2⟩,Y,U,T,k _ _ (.inl rfl) e,c⟩
 |set S n=>obtain⟨Y,U,T,t,e,c⟩:=x;exact⟨Y,U,T,t,k _ _ (.inl rfl) e,c⟩
 |ins C D fs =>
  mleft;obtain⟨d,z,I,e,N,⟨M,U,T,G,c⟩,r⟩:=x;mright;exact⟨L _ d,z,I,k _ _ (.inl rfl) e,N,⟨M,U,T,k _ _ (.inr d) G,c⟩,r⟩
 |own y=>obtain⟨Y,e⟩:=x;exact⟨Y,k _ _ (.inl rfl) e⟩
 |xd fs=>obtain⟨N,⟨M,U,T,e,c⟩,r⟩:=x;exact⟨N,⟨M,U,T,k _ _ (.inl rfl) e,c⟩,r⟩
 |rng lo B=>obtain⟨t,u,v,e⟩:=x;exact⟨t,u,v,k _ _ (.inl rfl) e⟩
 |cV Y u E=>obtain⟨e,q⟩:=x;exact⟨k _ _ (.inl rfl) e,E q⟩
 |Pj ps =>
  have e:h.get? a=some { cls:=.none,data:=.fields ps }:=x;show h'.get? a=some { cls:=.none,data:=.fields ps };exact k a _ (.inl rfl) e
 |met f y =>
  have e:h.get? a=some (W.methodObj (.ref f) (.ref y)):=x;show h'.get? a=some (W.methodObj (.ref f) (.ref y));exact k a _ (.inl rfl) e
 |ext φ=>obtain⟨p,⟨o,e⟩,st⟩:=x;exact⟨st _ _ p λo q=>k _ _ (.inl rfl) q,⟨o,k _ _ (.inl rfl) e⟩,st⟩
theorem fH.lt(x:fH P w H h)(e:H a=some o):a<h.objs.size:=(x a o e).lt
theorem fH.fresh(x:fH P w H h)(e:h.objs.size<=a):H a=none:=by
 cases q:H a with
 |none=>rfl
 |some u=>exact absurd (eE (x.lt q) e) (uo _)
theorem fH.kept(x:fH P w H h)(k:∀b u,h.get? b=some u->h'.get? b=some u):fH P w H h':=λa o e =>
 (x a o e).lq (λb u _ q=>k b u q) (λ_ q=>q) λ_ _ q=>q
theorem fH.laid(x:fH P w H h)(k:∀b u,h.get? b=some u->h'.get? b=some u)(Q:h.objs.size<=a)(Y:dH P w (upd H a o) h' a o):fH P w (upd H a o) h':=λb u e=>by
 have U:=x.fresh Q;by_cases T:b=a
 .subst T;rw[af]at e;cases e;exact Y
 rw[aj T]at e;exact(x b u e).lq (λc v _ q=>k c v q) (λc q=>by rw[aj (aO q U)];exact q) λc xs q=>by rw[aj (aO q U)];exact q
end
def Rd(H:Hp)(a:Addr)(u:HO):Prop:=H a=some u\/∃o,H a=some (.cV o u)
theorem Rd.ok{P:Program}{w:World}{H:Hp}{h:Heap}{a:Addr}{u:HO}(r:Rd H a u)(x:fH P w H h):dH P w H h a u:=by
 rcases r with r|⟨o,r⟩
 .exact x a u r
 obtain⟨_,q⟩:=x a _ r;exact q
def LA:Option HO->Prop
 |some (.lst _)=>True
 |some (.dK _)=>True
 |some (.dT _)=>True
 |some (.set _ _)=>True
 |some (.ins _ _ _)=>True
 |some (.ext _)=>True
 |_=>False
section
variable{P:Program}{w:World}{H:Hp}{h h':Heap}{x e:Addr}{o':HO}
theorem fH.write(ok:fH P w H h)(Q:LA (H x))(J:e=x\/H e=some (.own x))(k:∀b u,b≠e->h.get? b=some u->h'.get? b=some u)(M:∃u,h'.get? e=some u)
  (L:dH P w (upd H x o') h' x o'):fH P w (upd H x o') h':=λb u q=>by
 have U:∀c y,H c=some (.own y)->c≠x:=λc y r z=>by subst z;rw[r]at Q;exact Q
 have T:∀c xs,H c=some (.tup xs)->c≠x:=λc xs r z=>by subst z;rw[r]at Q;exact Q
 by_cases O:b=x
 .subst O;rw[af]at q;cases q;exact L
 rw[aj O]at q;by_cases Y:b=e
 .have I:H b=some (.own x):=by
   rcases J with z|z
   .exact absurd (Y.trans z) O
   rw[Y];exact z
  rw[q]at I;cases I;obtain⟨v,G⟩:=M;exact⟨v,by rw[Y];exact G⟩
 refine(ok b u q).lq (λc v N r=>k c v ?_ r) (λc r=>by rw[aj (U c b r)];exact r) λc xs r=>by rw[aj (T c xs r)];exact r
 rcases N with rfl|N
 .exact Y
 rintro rfl;rcases J with z|z
 .exact U c b N z
 rw[N]at z;cases z;exact O rfl
end
structure Un(fs ex:List Addr)(H H':Hp)(h h':Heap):Prop where
 keep:∀b o,h.get? b=some o->H b=none->b∉fs->b∉ex->h'.get? b=some o
 slot:∀b o,h.get? b=some o->H b=none->b∈fs->b∉ex->∃sl,h'.get? b=some { o with slots:=sl }
 free:∀b o,h.get? b=some o->H b=none->b∉ex->H' b=none
 there:∀b o,h.get? b=some o->b∉ex->∃o',h'.get? b=some o'
 tJ:∀b xs,H b=some (.tup xs)->H' b=some (.tup xs)
 qN:∀b o u,H b=some (.cV o u)->H' b=some (.cV o u)
 tM:∀b ps,H b=some (.Pj ps)->∃more,H' b=some (.Pj (ps++more))
section
variable{fs fs' ex ex':List Addr}{H H1 H2:Hp}{h h1 h2 h':Heap}{a x e:Addr}{o:HO}
theorem Un.any(u:Un fs ex H H1 h h1){b:Addr}{Y:Obj}(q:h.get? b=some Y)(n:H b=none)(U:b∉ex):∃Q,h1.get? b=some { Y with slots:=Q }:=by
 by_cases T:b∈fs
 .exact u.slot b Y q n T U
 exact⟨Y.slots,u.keep b Y q n T U⟩
theorem Un.kept(k:∀b u,h.get? b=some u->h'.get? b=some u):Un fs ex H H h h':=
 ⟨λb Y q _ _ _=>k b Y q,λb Y q _ _ _=>⟨Y.slots,k b Y q⟩,λ_ _ _ n _=>n,λb Y q _=>⟨Y,k b Y q⟩,λ_ _ q=>q,λ_ _ _ q=>q,λ_ ps q=>⟨#[],by rw[q];simp⟩⟩
theorem Un.refl:Un fs ex H H h h:=Un.kept λ_ _ q=>q
theorem Un.laid(k:∀b u,h.get? b=some u->h'.get? b=some u)(U:h.objs.size<=a)(Y:H a=none):Un fs ex H (upd H a o) h h' where
 keep:=λb u q _ _ _=>k b u q
 slot:=λb u q _ _ _=>⟨u.slots,k b u q⟩
 free:=λb u q n _=>by rw[aj (fZ (eE (bV q) U))];exact n
 there:=λb u q _=>⟨u,k b u q⟩
 tJ:=λb xs q=>by rw[aj (aO q Y)];exact q
 qN:=λb u xs q=>by rw[aj (aO q Y)];exact q
 tM:=λb ps q=>⟨#[],by rw[aj (aO q Y),q];simp⟩
theorem Un.write(U:LA (H x))(M:e=x\/H e=some (.own x))(k:∀b u,b≠e->h.get? b=some u->h'.get? b=some u)(T:∃u,h'.get? e=some u):Un fs ex H (upd H x o) h h':=by
 have O:∀b,H b=none->b≠x:=λb n z=>by subst z;rw[n]at U;exact U
 have N:∀b,H b=none->b≠e:=λb n z=>by
  subst z;rcases M with r|r
  .exact O b n r
  rw[n]at r;cases r
 have Q:∀b u,H b=some u->¬LA (some u)->b≠x:=λb u q L z=>by subst z;rw[q]at U;exact L U
 refine⟨λb u q n _ _=>k b u (N b n) q,λb u q n _ _=>⟨u.slots,k b u (N b n) q⟩,λb u q n _=>by rw[aj (O b n)];exact n,λb u q _=>?_,
  λb xs q=>by rw[aj (Q b _ q λz=>z)];exact q,λb u xs q=>by rw[aj (Q b _ q λz=>z)];exact q,λb ps q=>⟨#[],by rw[aj (Q b _ q λz=>z),q];simp⟩⟩
 by_cases Y:b=e
 .subst Y;exact T
 exact⟨u,k b u Y q⟩
end
def Zk(h:Heap)(H:Hp):List Addr:=(List.range h.objs.size).filter λa=>(H a).isSome
def Ax(h:Heap)(H:Hp):Heap:=W.hideAll h (Zk h H)
theorem U2(h:Heap)(H:Hp):(Ax h H).objs.size=h.objs.size:=W.hideAll_size _ _
theorem Xv{h:Heap}{H:Hp}{b:Addr}{o:Obj}(e:h.get? b=some o)(n:H b=none):(Ax h H).get? b=some o:=
 W.hideAll_get _ e λY=>by
  have q:(H b).isSome=true:=(g6.mp Y).2;rw[n]at q;simp at q
theorem aaI{h:Heap}{H:Hp}{b:Addr}{o:Obj}(e:(Ax h H).get? b=some o):h.get? b=some o/\H b=none:=by
 have Y:h.get? b=some o:=W.of_hideAll (Zk h H) e;refine⟨Y,?_⟩;cases q:H b with
 |none=>rfl
 |some x =>
  have U:b∈Zk h H:=g6.mpr ⟨Et.mpr (bV Y),by simp[q]⟩
  have z:(Ax h H).get? b=none:=W.hideAll_none (Zk h H) U;rw[z]at e;cases e
end
section
structure Mod(K:W.Frag)(mg:Str->Option Value)(base:Heap):Prop where
 PU:K.In base
 glob:base.Ns mainGlobals mg
 blt:∃mb,base.Ns builtinsNs mb/\∀x:Str,x≠"__name__"->mb x=bootBuiltins x
 nolimit:base.NoLimit
structure Cx where
 prog:Program
 w:World
 K:W.Frag
 mg:Str->Option Value
 base:Heap
 A:Around
 N:List Str
 m7:Shared
 Pb:Hp
 env:Env
 outer:List Env
 stack:List Env
 ex:List Addr
 fn:Str->Bool
 calm:Bool
 pn:bO
 xe:b7
def pP(l:List Env):List Addr:=l.filterMap (·.frame)
abbrev Cx.fs(X:Cx):List Addr:=pP X.outer
def RH(Y:Scope)(x:Str):Prop:=Y.names.lookup x=some .local\/Y.names.lookup x=some .cell\/Y.names.lookup x=some .free
def Loc(Y:Scope)(x:Str):Prop:=Y.names.lookup x=some .local\/Y.names.lookup x=some .cell
def Look(Y:Env)(h:Heap)(m:Str->Option Value)(x:Str)(u:Value):Prop:=
 (Y.kindOf x=some .local/\m x=some u)\/((Y.kindOf x=some .cell\/Y.kindOf x=some .free)/\∃c,Y.cells.lookup x=some c/\h.IsCell c (some u))
structure Cx.Ok(X:Cx):Prop where
 mod:Mod X.K X.mg X.base
 kind:X.env.scope.kind=.function
 glob:X.env.globals=mainGlobals
 blt:X.env.builtins=builtinsNs
 above:X.m7.heap.objs.size<=X.env.locals
 inj:∀x y c,X.env.cells.lookup x=some c->X.env.cells.lookup y=some c->x=y
 has:∀x,(X.env.kindOf x=some .cell\/X.env.kindOf x=some .free)->∃c,X.env.cells.lookup x=some c
 N8:∀x c,X.fn x=true->X.env.cells.lookup x=some c->X.m7.heap.objs.size<=c
 hd:X.calm=true->X.A.handled=none
 frames:X.A.frames=some X.stack
 B6:X.stack=X.outer\/(X.stack=X.env::X.outer/\X.env.frame=some X.env.locals)
 Lc:∀b∈X.ex,b≠X.env.locals/\∀x c,X.env.cells.lookup x=some c->c≠b
 bs:∀b o,X.base.get? b=some o->X.m7.heap.get? b=some o/\X.Pb b=none
 BW:X.base.objs.size<=X.m7.heap.objs.size
 GJ:∀b o,X.base.get? b=some o->b∉X.ex
 Dz:∀b∈X.ex,b∉X.fs
 qL:X.m7.heap.FunFrames X.base X.outer
 JU:∀b∈X.fs,X.Pb b=none
structure Inv(X:Cx)(pins:bO)(σ:List (Option V))(H:Hp)(s:Shared):Prop where
 ok:X.Ok
 os:s.os=X.m7.os
 bare:AllBare s.gens
 base:Un X.fs X.ex X.Pb H X.m7.heap s.heap
 loc:∃m,s.heap.Ns X.env.locals m/\∀(i:Nat) (x:Str) (v:V),X.N[i]?=some x->σ[i]?=some (some v)->RH X.env.scope x->∃u,RelV v u/\Look X.env s.heap m x u
 cell:∀x c,X.env.cells.lookup x=some c->∃v,s.heap.IsCell c v
 free:H X.env.locals=none
 g7:∀x c,X.env.cells.lookup x=some c->H c=none
 pin:∀p∈X.pn++pins,s.heap.get? p.1=some p.2/\H p.1=none/\p.1≠X.env.locals/\p.1∉X.fs/\∀v,p.2.data≠.cell v
 aQ:fH X.prog X.w H s.heap
 len:σ.length=X.N.length
section
variable{X:Cx}{pins:bO}{σ:List (Option V)}{H H':Hp}{s:Shared}{h':Heap}
theorem Cx.Ok.ac5(ok:X.Ok){b:Addr}{o:Obj}(e:X.base.get? b=some o):b∉X.fs:=λY=>by
 have:=(ok.qL.mem Y).1;rw[e]at this;cases this
theorem Inv.bs(I:Inv X pins σ H s):∀b o,X.base.get? b=some o->s.heap.get? b=some o/\H b=none:=λb o e =>
 ⟨I.base.keep b o (I.ok.bs b o e).1 (I.ok.bs b o e).2 (I.ok.ac5 e) (I.ok.GJ b o e),I.base.free b o (I.ok.bs b o e).1 (I.ok.bs b o e).2 (I.ok.GJ b o e)⟩
theorem Inv.bk(I:Inv X pins σ H s):∀b o,X.base.get? b=some o->s.heap.get? b=some o:=λb o e=>(I.bs b o e).1
theorem Inv.mod(I:Inv X pins σ H s):Mod X.K X.mg X.base:=I.ok.mod
theorem Inv.gT(I:Inv X pins σ H s):X.K.In s.heap:=I.ok.mod.PU.keeps I.bk
theorem Inv.fr(I:Inv X pins σ H s):∃m,Fr X.base X.env.locals s.heap m:=
 let ⟨m,Y,_⟩:=I.loc
 ⟨m,Y,I.bk,bT I.ok.BW I.ok.above⟩
theorem Inv.lt(I:Inv X pins σ H s):X.env.locals<s.heap.objs.size:=let ⟨_,Y,_⟩:=I.loc;Y.lt
theorem Inv.sz(I:Inv X pins σ H s):X.m7.heap.objs.size<=s.heap.objs.size:=bT I.ok.above (Nj I.lt)
theorem Inv.ac9(I:Inv X pins σ H s){a:Addr}(h:s.heap.objs.size<=a):a∉X.fs:=λY=>by
 mleft;obtain⟨_,o,U,_⟩:=I.ok.qL.mem Y;mright;exact absurd (eE (bV U) (bT I.sz h)) (uo _)
theorem Inv.Ls(I:Inv X pins σ H s):∀x c,X.env.cells.lookup x=some c->c≠X.env.locals:=λx c e z=>by
 mleft;obtain⟨v,o,T,hd⟩:=I.cell x c e;mright;mleft;obtain⟨m,⟨Q,O,N,Y,U,_⟩,_⟩:=I.loc;mright;rw[z,Y]at T;cases T;rw[U]at hd;cases hd
theorem Inv.qL(I:Inv X pins σ H s):s.heap.FunFrames X.base X.outer:=by
 have all:∀(l:List Env),(∀b∈pP l,b∈X.fs)->X.m7.heap.FunFrames X.base l->s.heap.FunFrames X.base l:=by
  intro l
  induction l with
  |nil=>intro _ _;trivial
  |cons O r N =>
   intro Q M;mleft;obtain⟨J,⟨L,o,Y,G,E,hd⟩,hr⟩:=M;mright;have U:L∈X.fs:=Q L (by unfold pP;rw[vt,Y];exact df)
   obtain⟨D,e⟩:=I.base.slot L o E (I.ok.JU L U) U λz=>I.ok.Dz L z U;exact⟨J,⟨L,_,Y,G,e,hd⟩,N (λb T=>Q b (by unfold pP;rw[vt,Y];exact cF _ T)) hr⟩
 exact all X.outer (λ_ T=>T) I.ok.qL
theorem Inv.stack(I:Inv X pins σ H s):s.heap.FunFrames X.base X.stack:=by
 rcases I.ok.B6 with e|⟨e,Y⟩
 .rw[e];exact I.qL
 rw[e];obtain⟨m,U,_⟩:=I.loc;refine .cons (by rw[I.ok.kind];decide) Y U ?_ I.qL
 exact Heap.get?_none_of_le (bT I.ok.BW I.ok.above)
theorem Inv.Qw(I:Inv X pins σ H s):∀b∈pP X.stack,b∈X.env.locals::X.fs:=λb Y=>by
 rcases I.ok.B6 with e|⟨e,U⟩
 .rw[e]at Y;exact cF _ Y
 rw[e]at Y;unfold pP at Y;rw[vt,U]at Y;exact Y
theorem Inv.J4(I:Inv X pins σ H s):∀b∈pP X.stack,H b=none:=λb Y=>by
 rcases b0.mp (I.Qw b Y)with e|Y
 .rw[e];exact I.free
 mleft;obtain⟨_,o,U,_⟩:=I.ok.qL.mem Y;mright;exact I.base.free b o U (I.ok.JU b Y) λz=>I.ok.Dz b z Y
theorem Inv.step{g':Array GenState}{t':Nat}{d':Drawn}{ch:List Addr}(I:Inv X pins σ H s)
  (U:∀b∈ch,(b∈X.ex\/X.m7.heap.objs.size<=b)/\b≠X.env.locals/\(∀x c,X.env.cells.lookup x=some c->c≠b)/\∀p∈X.pn++pins,p.1≠b)
  (keep:∀b o,b≠X.env.locals->b∉X.fs->b∉ch->s.heap.get? b=some o->H b=none->h'.get? b=some o)
  (slot:∀b o,b≠X.env.locals->b∈X.fs->b∉ch->s.heap.get? b=some o->H b=none->∃C,h'.get? b=some { o with slots:=C }) (free:∀b o,b∉ch->s.heap.get? b=some o->H b=none->H' b=none)
  (there:∀b o,b∉ch->s.heap.get? b=some o->∃J,h'.get? b=some J)
  (tJ:∀b xs,H b=some (.tup xs)->H' b=some (.tup xs)) (qN:∀b o u,H b=some (.cV o u)->H' b=some (.cV o u)) (tM:∀b ps,H b=some (.Pj ps)->∃G,H' b=some (.Pj (ps++G)))
  (f:∀m,s.heap.Ns X.env.locals m->h'.Ns X.env.locals m) (aQ:fH X.prog X.w H' h') (a:AllBare g') :
  Inv X pins σ H' { s with heap:=h',gens:=g',drawn:=d',toks:=t' }:=by
 have E:∀b o,X.m7.heap.get? b=some o->b≠X.env.locals:=λb o e=>fZ (eE (bV e) I.ok.above);have O:∀b o,X.m7.heap.get? b=some o->b∉X.ex->b∉ch:=λb o e Y M=>by
  rcases(U b M).1 with z|z
  .exact Y z
  exact absurd (eE (bV e) z) (uo _)
 have T:∀x c,X.env.cells.lookup x=some c->∀v,s.heap.IsCell c v->h'.IsCell c v:=λx c e v ⟨o,L,hd⟩=>by
  have Q:c∉ch:=λz=>(U c z).2.2.1 x c e rfl;by_cases A:c∈X.fs
  .obtain⟨C,q⟩:=slot c o (I.Ls x c e) A Q L (I.g7 x c e);exact⟨_,q,hd⟩
  exact⟨o,keep c o (I.Ls x c e) A Q L (I.g7 x c e),hd⟩
 refine⟨I.ok,I.os,a,⟨λb o e n M Y=>?_,λb o e n M Y=>?_,λb o e n Y=>?_,λb o e Y=>?_,λb xs e=>tJ b xs (I.base.tJ b xs e),λb o xs e=>qN b o xs (I.base.qN b o xs e),λb ps e=>?_⟩,?_,λx c e=>?_,?_,λx c e=>?_,λp y=>?_,aQ,I.len⟩
 .exact keep b o (E b o e) M (O b o e Y) (I.base.keep b o e n M Y) (I.base.free b o e n Y)
 .obtain⟨C,N⟩:=I.base.slot b o e n M Y;obtain⟨B,D⟩:=slot b _ (E b o e) M (O b o e Y) N (I.base.free b o e n Y);exact⟨B,D⟩
 .obtain⟨J,N⟩:=I.base.there b o e Y;exact free b J (O b o e Y) N (I.base.free b o e n Y)
 .obtain⟨J,N⟩:=I.base.there b o e Y;exact there b J (O b o e Y) N
 .obtain⟨m1,N⟩:=I.base.tM b ps e;obtain⟨m2,D⟩:=tM b _ N;exact⟨m1++m2,by rw[D,Array.append_assoc]⟩
 .obtain⟨m,hn,hl⟩:=I.loc;refine⟨m,f m hn,λi x v N D e3=>?_⟩;obtain⟨u,r,l⟩:=hl i x v N D e3;refine⟨u,r,?_⟩;rcases l with l|⟨k,c,e,z⟩
  .exact .inl l
  exact .inr ⟨k,c,e,T x c e _ z⟩
 .obtain⟨v,z⟩:=I.cell x c e;exact⟨v,T x c e v z⟩
 .mleft;obtain⟨m,⟨o,_,_,L,_⟩,_⟩:=I.loc;mright;exact free _ o (λz=>(U _ z).2.1 rfl) L I.free
 .mleft;obtain⟨v,o,L,hd⟩:=I.cell x c e;mright;exact free c o (λz=>(U c z).2.2.1 x c e rfl) L (I.g7 x c e)
 mleft;obtain⟨e,n,j,g,d⟩:=I.pin p y;mright;have Q:p.1∉ch:=λz=>(U p.1 z).2.2.2 p y rfl;exact⟨keep p.1 p.2 j g Q e n,free p.1 p.2 Q e n,j,g,d⟩
theorem Inv.un{t':Nat}(I:Inv X pins σ H s)(u:Un X.fs [] H H' s.heap h')(aQ:fH X.prog X.w H' h'):Inv X pins σ H' { s with heap:=h',toks:=t' }:=by
 mleft;obtain⟨m,⟨o,J,G,O,r⟩,_⟩:=id I.loc;mright;obtain⟨E,N⟩:=u.any O I.free aP;exact I.step (g':=s.gens) (d':=s.drawn) (ch:=[]) (λ_ z=>nomatch z) (λb o _ U _ e n=>u.keep b o e n U aP) (λb o _ U _ e n=>u.slot b o e n U aP) (λb o _ e n=>u.free b o e n aP) (λb o _ e=>u.there b o e aP) u.tJ u.qN u.tM (λD M=>by
  mleft;obtain⟨C,T,Q,Y,L⟩:=M;mright;rw[O]at Y;cases Y;exact⟨_,T,Q,N,L⟩) aQ I.bare
theorem Inv.call{g':Array GenState}{t':Nat}{d':Drawn}{ch:List Addr}(I:Inv X pins σ H s)(u:Un (pP X.stack) ch H H' s.heap h')(aQ:fH X.prog X.w H' h')(L:AllBare g')
  (U:∀b∈ch,(b∈X.ex\/X.m7.heap.objs.size<=b)/\b≠X.env.locals/\(∀x c,X.env.cells.lookup x=some c->c≠b)/\∀p∈X.pn++pins,p.1≠b) :
  Inv X pins σ H' { s with heap:=h',gens:=g',drawn:=d',toks:=t' }:=by
 mleft;obtain⟨m,⟨o,D,C,M,r⟩,_⟩:=id I.loc;mright;obtain⟨B,Q⟩:=u.any M I.free λz=>(U _ z).2.1 rfl;exact I.step (ch:=ch) U (λb o Q J Y e n=>u.keep b o e n (λz=>(b0.mp (I.Qw b z)).elim Q J) Y) (λb o _ _ Y e n=>u.any e n Y) (λb o Y e n=>u.free b o e n Y) (λb o Y e=>u.there b o e Y) u.tJ u.qN u.tM (λA G=>by
  mleft;obtain⟨y,O,N,T,E⟩:=G;mright;rw[M]at T;cases T;exact⟨_,O,N,Q,E⟩) aQ L
theorem Inv.turned{t':Nat}{it:Addr}(I:Inv X pins σ H s)(k:∀b o,b≠it->s.heap.get? b=some o->h'.get? b=some o)(Q:H it=none)(T:it≠X.env.locals)
  (O:it∈X.ex\/X.m7.heap.objs.size<=it) (N:∀x c,X.env.cells.lookup x=some c->c≠it) (M:∀p∈X.pn++pins,p.1≠it):Inv X pins σ H { s with heap:=h',toks:=t' }:=by
 have U:∀b u,H b=some u->b≠it:=λb u e z=>by rw[z,Q]at e;cases e
 refine I.step (g':=s.gens) (d':=s.drawn) (ch:=[it]) (λb L=>?_) (λb o _ _ Y e _=>k b o (λz=>Y (by simp[z])) e) (λb o _ _ Y e _=>⟨o.slots,k b o (λz=>Y (by simp[z])) e⟩) (λ_ _ _ _ n=>n)
  (λb o Y e=>⟨o,k b o (λz=>Y (by simp[z])) e⟩) (λ_ _ e=>e) (λ_ _ _ e=>e) (λb ps e=>⟨#[],by rw[e];simp⟩) (λm J=>?_) (λb u e=>?_) I.bare
 .have e:b=it:=by simpa using L
  subst e;exact⟨O,T,N,M⟩
 .mleft;obtain⟨o,G,E,D,r⟩:=J;mright;exact⟨o,G,E,k _ o (bq T) D,r⟩
 refine(I.aQ b u e).lq (λc v Y q=>k c v ?_ q) (λ_ q=>q) λ_ _ q=>q;rcases Y with z|z
 .rw[z];exact U b u e
 exact U c _ z
theorem Inv.tok(I:Inv X pins σ H s)(t:Nat):Inv X pins σ H { s with toks:=t }:=I.un (h':=s.heap) (t':=t) Un.refl I.aQ
theorem Inv.kept{t':Nat}(I:Inv X pins σ H s)(k:∀b u,s.heap.get? b=some u->h'.get? b=some u):Inv X pins σ H { s with heap:=h',toks:=t' }:=I.un (Un.kept k) (I.aQ.kept k)
theorem Inv.laid{a:Addr}{o:HO}{t':Nat}(I:Inv X pins σ H s)(k:∀b u,s.heap.get? b=some u->h'.get? b=some u)(Y:s.heap.objs.size<=a)(U:dH X.prog X.w (upd H a o) h' a o) :
  Inv X pins σ (upd H a o) { s with heap:=h',toks:=t' }:=I.un (Un.laid k Y (I.aQ.fresh Y)) (I.aQ.laid k Y U)
theorem Inv.write{x e:Addr}{o:HO}{t':Nat}(I:Inv X pins σ H s)(T:LA (H x))(Q:e=x\/H e=some (.own x))(k:∀b u,b≠e->s.heap.get? b=some u->h'.get? b=some u)(Y:∃u,h'.get? e=some u)
  (U:dH X.prog X.w (upd H x o) h' x o):Inv X pins σ (upd H x o) { s with heap:=h',toks:=t' }:=I.un (Un.write T Q k Y) (I.aQ.write T Q k Y U)
theorem Inv.weak{Y:List (Option V)}(I:Inv X pins σ H s)(T:Y.length=σ.length)(w:∀(i:Nat) v,Y[i]?=some (some v)->σ[i]?=some (some v)):Inv X pins Y H s:=
 ⟨I.ok,I.os,I.bare,I.base,let ⟨m,Q,U⟩:=I.loc;⟨m,Q,λi x v O N M=>U i x v O (w i v N) M⟩,I.cell,I.free,I.g7,I.pin,I.aQ,T.trans I.len⟩
theorem Inv.RT{Y:bO}(I:Inv X pins σ H s)(h:∀p∈Y,s.heap.get? p.1=some p.2/\H p.1=none/\p.1≠X.env.locals/\p.1∉X.fs/\∀v,p.2.data≠.cell v):Inv X Y σ H s:=
 ⟨I.ok,I.os,I.bare,I.base,I.loc,I.cell,I.free,I.g7,λp U=>(lV.mp U).elim (λz=>I.pin p (ND _ z)) (h p),I.aQ,I.len⟩
theorem F9{N:List Str}(Y:N.Nodup){i j:Nat}{x:Str}(a:N[i]?=some x)(b:N[j]?=some x):i=j:=by
 obtain⟨Q,U⟩:=dE.mp a;obtain⟨O,T⟩:=dE.mp b;exact(UY Y).mp (U.trans T.symm)
theorem DM{M:Model}{A:Around}{E:b7}{i:Nat}{x:Str}{v:V}{u:Value}{Q:Unit->Shared->Prop}(I:Inv X pins σ H s)(hN:X.N.Nodup)(f:X.N[i]?=some x)(L:Loc X.env.scope x)(r:RelV v u)
  (h:∀s',Inv X pins (σ.set i (some v)) H s'->(∃a,Heap.SameBut a s.heap s'.heap/\(a=X.env.locals\/X.env.cells.lookup x=some a))->Q () s') (hf:X.fn x=true\/X.env.scope.names.lookup x=some .local:=by first|exact .inl rfl|exact .inr rfl|assumption):wpAny M A (storeName X.env x u) Q E s:=by
 obtain⟨m,hn,hl⟩:=id I.loc;have ab:(X.env.scope.kind==.class||(X.env.scope.kind==.module&&X.env.locals != X.env.globals))=false:=by rw[I.ok.kind];rfl
 have D:i<σ.length:=by rw[I.len];exact(dE.mp f).1
 have Ls:=I.Ls;have U:∀{a:Addr} {h':Heap},(∃o,s.heap.get? a=some o/\H a=none)->Heap.SameBut a s.heap h'->fH X.prog X.w H h':=λ{a h'} ha Y b ob e=>by
  obtain⟨_,_,J⟩:=ha;refine(I.aQ b ob e).lq (λc w' O q=>(Y.2 c ?_).trans q) (λ_ q=>q) λ_ _ q=>q;rintro rfl;rcases O with rfl|O
  .rw[J]at e;cases e
  rw[J]at O;cases O
 rcases L with C|C
 .refine wpAny_storeName_local C hn (λh' ar Y=>?_) ab;mleft;obtain⟨oL,_,_,av,_⟩:=id hn;mright;refine h _ ⟨I.ok,I.os,I.bare,⟨λb o e n B L=>?_,λb o e n B L=>?_,I.base.free,λb o e L=>?_,I.base.tJ,I.base.qN,I.base.tM⟩,⟨_,ar,λj y v' T G e3=>?_⟩,λy c e=>?_,I.free,I.g7,λp hp=>?_,U ⟨oL,av,I.free⟩ Y,by simpa using I.len⟩ ⟨_,Y,.inl rfl⟩
  .exact(Y.2 b (fZ (eE (bV e) I.ok.above))).trans (I.base.keep b o e n B L)
  .obtain⟨sl,T⟩:=I.base.slot b o e n B L;exact⟨sl,(Y.2 b (fZ (eE (bV e) I.ok.above))).trans T⟩
  .obtain⟨o',T⟩:=I.base.there b o e L;exact⟨o',(Y.2 b (fZ (eE (bV e) I.ok.above))).trans T⟩
  .by_cases l:j=i
   .subst l;rw[f]at T;cases T;rw[Bs D]at G;cases G;exact⟨u,r,.inl ⟨C,by simp⟩⟩
   rw[G5 (bq l)]at G;obtain⟨u',r',q⟩:=hl j y v' T G e3;refine⟨u',r',?_⟩;rcases q with⟨k,e⟩|⟨k,c,e,z⟩
   .refine .inl ⟨k,?_⟩;have:y≠x:=λe=>l (F9 hN T (e▸f));simp[this,e]
   exact .inr ⟨k,c,e,z.sameBut Y (Ls y c e)⟩
  .obtain⟨w',z⟩:=I.cell y c e;exact⟨w',z.sameBut Y (Ls y c e)⟩
  mleft;obtain⟨e,n,ne,nf,d⟩:=I.pin p hp;mright;exact⟨(Y.2 p.1 ne).trans e,n,ne,nf,d⟩
 have g:X.fn x=true:=by
  rcases hf with z|z
  .exact z
  rw[z]at C;cases C
 obtain⟨c,O⟩:=I.ok.has x (.inl C);obtain⟨w',z⟩:=I.cell x c O;refine wpAny_storeName_cell I.ok.kind C O z (λh' al Y=>?_);obtain⟨oc,am,an⟩:=id z;refine h { s with heap:=h' } ⟨I.ok,I.os,I.bare,⟨λb o e n B L=>?_,λb o e n B L=>?_,I.base.free,λb o e L=>?_,I.base.tJ,I.base.qN,I.base.tM⟩,⟨m,hn.sameBut Y (bq (Ls x c O)),λj y v' T G e3=>?_⟩,λy c' e=>?_,I.free,I.g7,λp hp=>?_,U ⟨oc,am,I.g7 x c O⟩ Y,by simpa using I.len⟩ ⟨c,Y,.inr O⟩
 .exact(Y.2 b (fZ (eE (bV e) (I.ok.N8 x c g O)))).trans (I.base.keep b o e n B L)
 .obtain⟨sl,T⟩:=I.base.slot b o e n B L;exact⟨sl,(Y.2 b (fZ (eE (bV e) (I.ok.N8 x c g O)))).trans T⟩
 .obtain⟨o',T⟩:=I.base.there b o e L;exact⟨o',(Y.2 b (fZ (eE (bV e) (I.ok.N8 x c g O)))).trans T⟩
 .by_cases l:j=i
  .subst l;rw[f]at T;cases T;rw[Bs D]at G;cases G;exact⟨u,r,.inr ⟨.inl C,c,O,al⟩⟩
  rw[G5 (bq l)]at G;obtain⟨u',r',q⟩:=hl j y v' T G e3;refine⟨u',r',?_⟩;rcases q with q|⟨k,c',e,z'⟩
  .exact .inl q
  refine .inr ⟨k,c',e,z'.sameBut Y ?_⟩;rintro rfl;exact l (F9 hN T (I.ok.inj _ _ _ e O▸f))
 .by_cases ap:c'=c
  .subst ap;exact⟨_,al⟩
  obtain⟨w2,z2⟩:=I.cell y c' e;exact⟨w2,z2.sameBut Y ap⟩
 mleft;obtain⟨e,n,ne,nf,d⟩:=I.pin p hp;mright;refine⟨(Y.2 p.1 ?_).trans e,n,ne,nf,d⟩;intro q;rw[q,am]at e;have q':oc=p.2:=cp e;exact d w' (by rw[<-q'];exact an)
theorem AU{M:Model}{A:Around}{E:b7}{i:Nat}{x:Str}{v:V}{u:Value}{Q:Unit->Shared->Prop}(I:Inv X pins σ H s)(U:X.N.Nodup)(T:X.N[i]?=some x)(O:Loc X.env.scope x)(r:RelV v u)
  (h:∀Y,Inv X pins (σ.set i (some v)) H Y->Q () Y) (L:X.fn x=true\/X.env.scope.names.lookup x=some .local:=by first|exact .inl rfl|exact .inr rfl|assumption):wpAny M A (storeName X.env x u) Q E s:=
 DM I U T O r (λY J _=>h Y J) L
theorem Inv.Nl{s':Shared}{ch:List Addr}(I:Inv X pins σ H s)(U:s'.os=s.os)(u:Un (pP X.stack) ch H H' s.heap s'.heap)(aQ:fH X.prog X.w H' s'.heap)(T:AllBare s'.gens)
  (Y:∀b∈ch,(b∈X.ex\/X.m7.heap.objs.size<=b)/\b≠X.env.locals/\(∀x c,X.env.cells.lookup x=some c->c≠b)/\∀p∈X.pn++pins,p.1≠b):Inv X pins σ H' s':=by
 mleft;obtain⟨h',g',d',t',Q⟩:=s';mright;have e:Q=s.os:=U;subst e;exact I.call (g':=g') (t':=t') (d':=d') u aQ T Y
end
abbrev XK:=Value->Option Addr->Hp->Prop
abbrev St:=List (Option V)
abbrev VK:=V->Hp->Prop
abbrev TE:=St->Hp->VK->Prop
abbrev TT:=St->Hp->(Bool->Hp->Prop)->Prop
abbrev TA:=St->Hp->(List V->Hp->Prop)->Prop
structure Ends where
 nx:St->Hp->Prop
 rt:VK
 bk:St->Hp->Prop:=λ_ _=>False
 ct:St->Hp->Prop:=λ_ _=>False
abbrev TS:=Ends->St->Hp->Prop
def EP(X:Cx)(pins:bO)(σ:St)(Q:VK)(u:Value)(U:Shared):Prop:=X2 λv Y=>Y3 (Inv X pins σ Y U) (RelV v u) (Q v Y)
def TP(X:Cx)(pins:bO)(σ:St)(Q:Bool->Hp->Prop)(b:Bool)(U:Shared):Prop:=∃Y,Inv X pins σ Y U/\Q b Y
def AP(X:Cx)(pins:bO)(σ:St)(Q:List V->Hp->Prop)(us:List Value)(U:Shared):Prop:=X2 λvs Y=>Y3 (Inv X pins σ Y U) (Vals vs us) (Q vs Y)
def SP(X:Cx)(pins:bO)(D:Ends)(f:Flow)(T:Shared):Prop:=
 match f with
 |.next=>X2 λY U=>Inv X pins Y U T/\D.nx Y U
 |.brk=>X2 λY U=>Inv X pins Y U T/\D.bk Y U
 |.cont=>X2 λY U=>Inv X pins Y U T/\D.ct Y U
 |.ret u=>X3 λv Y U=>Y3 (Inv X pins Y U T) (RelV v u) (D.rt v U)
def PE(X:Cx)(e:Expr)(t:TE):Prop:=
 ∀(pins:bO) (s:Shared) (σ:St) (H:Hp) (Q:VK),Inv X pins σ H s->t σ H Q->wpAny (model X.prog X.w) X.A (eval e X.env) (EP X pins σ Q) X.xe s
def PT(X:Cx)(e:Expr)(t:TT):Prop:=
 ∀(pins:bO) (s:Shared) (σ:St) (H:Hp) (Q:Bool->Hp->Prop),Inv X pins σ H s->t σ H Q->wpAny (model X.prog X.w) X.A (isTrue e X.env (eval e X.env)) (TP X pins σ Q) X.xe s
def PW(X:Cx)(e:Expr)(t:TT):Prop:=
 ∀(Y:Sem Value) (pins:bO) (s:Shared) (σ:St) (H:Hp) (Q:Bool->Hp->Prop),Inv X pins σ H s->t σ H Q->wpAny (model X.prog X.w) X.A (isTrue e X.env Y) (TP X pins σ Q) X.xe s
theorem PW.pt{X:Cx}{e:Expr}{t:TT}(h:PW X e t):PT X e t:=h _
def PA(X:Cx)(U:List Expr)(t:TA):Prop:=
 ∀(Y:Pos) (pins:bO) (s:Shared) (σ:St) (H:Hp) (Q:List V->Hp->Prop),Inv X pins σ H s->t σ H Q->wpAny (model X.prog X.w) X.A (spliced (backTo Y (starEach U X.env))) (AP X pins σ Q) X.xe s
def PS(X:Cx)(st:Stmt)(t:TS):Prop:=
 ∀(pins:bO) (s:Shared) (σ:St) (H:Hp) (D:Ends),Inv X pins σ H s->t D σ H->wpAny (model X.prog X.w) X.A (exec st X.env) (SP X pins D) X.xe s
def uM(X:Cx)(st:List Stmt)(t:TS):Prop:=
 ∀(pins:bO) (s:Shared) (σ:St) (H:Hp) (D:Ends),Inv X pins σ H s->t D σ H->wpAny (model X.prog X.w) X.A (execs st X.env) (SP X pins D) X.xe s
theorem aZ{α:Type}{t:Sem α}{Q Y:α->Shared->Prop}{M:Model}{A:Around}{E:b7}{s:Shared}(h:wpAny M A t Q E s)(U:∀a s,Q a s->Y a s):wpAny M A t Y E s:=i5 h U λ_ _ x=>x
end
section
variable{pos:Pos}
section
variable{X:Cx}
def xg(x:V)(k:Int->Prop):Prop:=match x with|.int i=>k i|_=>False
def LI(x:V)(k:Bool->Prop):Prop:=match x with|.bl i=>k i|_=>False
def Fv(x:V)(k:Addr->Prop):Prop:=match x with|.ref i=>k i|_=>False
def VF(o:Option (Option V))(k:V->Prop):Prop:=match o with|some (some v)=>k v|_=>False
def WQ(o:Option V)(k:V->Prop):Prop:=match o with|some v=>k v|_=>False
def Zz(l:List V)(k:Prop):Prop:=match l with|[]=>k|_=>False
def Zf(l:List V)(k:V->List V->Prop):Prop:=match l with|v::r=>k v r|_=>False
def PC(C a:Addr)(H:Hp)(k:Addr->List (Str×V)->Prop):Prop:=∃Y fs,H a=some (.ins C Y fs)/\k Y fs
theorem gC{x:V}{k:Int->Prop}:xg x k↔∃i,x=.int i/\k i:=by cases x<;>simp[xg]
theorem EF{x:V}{k:Bool->Prop}:LI x k↔∃i,x=.bl i/\k i:=by cases x<;>simp[LI]
theorem oZ{x:V}{k:Addr->Prop}:Fv x k↔∃i,x=.ref i/\k i:=by cases x<;>simp[Fv]
theorem KJ{o:Option (Option V)}{k:V->Prop}:VF o k↔∃v,o=some (some v)/\k v:=by rcases o with _|_|v<;>simp[VF]
theorem RJ{o:Option V}{k:V->Prop}:WQ o k↔∃v,o=some v/\k v:=by cases o<;>simp[WQ]
theorem ZP{l:List V}{k:Prop}:Zz l k↔l=[]/\k:=by cases l<;>simp[Zz]
theorem aaq{l:List V}{k:V->List V->Prop}:Zf l k↔∃v r,l=v::r/\k v r:=by
 cases l with
 |nil=>simp[Zf]
 |cons a r=>exact⟨λh=>⟨a,r,rfl,h⟩,λ⟨_,_,e,h⟩=>by cases e;exact h⟩
theorem Si{i:Int}{k:Int->Prop}:xg (.int i) k=k i:=rfl
theorem V9{i:Bool}{k:Bool->Prop}:LI (.bl i) k=k i:=rfl
theorem RX{i:Addr}{k:Addr->Prop}:Fv (.ref i) k=k i:=rfl
theorem OJ{v:V}{k:V->Prop}:VF (some (some v)) k=k v:=rfl
theorem OT{v:V}{k:V->Prop}:WQ (some v) k=k v:=rfl
theorem Su{k:Prop}:Zz [] k=k:=rfl
theorem Oe{v:V}{r:List V}{k:V->List V->Prop}:Zf (v::r) k=k v r:=rfl
theorem UW{C a Y:Addr}{fs:List (Str×V)}{H:Hp}{k:Addr->List (Str×V)->Prop}(h:H a=some (.ins C Y fs)):PC C a H k=k Y fs:=by
 unfold PC;rw[h];simp only[gY,HO.ins.injEq,true_and,and_assoc,exists_and_left,exists_eq_left']
def kF(i:Nat):TE:=λσ H Q=>VF σ[i]? λv=>Q v H
def tC(v:V):TE:=λ_ H Q=>Q v H
theorem VW{i:Nat}{x:Str}(M:X.N[i]?=some x)(L:RH X.env.scope x)(hd:(x==("__debug__":Str))=false:=by decide)(T:(x==("__classdict__":Str))=false:=by decide):PE X (.Name x pos) (kF i):=by
 intro pins s σ H Q I h;obtain⟨v,e,h⟩:=KJ.mp h;obtain⟨m,J,G⟩:=I.loc;obtain⟨u,r,l⟩:=G i x v M e L;have fin:EP X pins σ Q u s:=⟨v,H,I,r,h⟩;rcases l with⟨U,E⟩|⟨U,c,O,Y⟩
 .exact wpAny_Name (wpAny_loadName_local I.ok.kind U J E fin) hd
 rcases U with U|U
 .exact wpAny_Name (wpAny_loadName_cell I.ok.kind U O Y fin) hd
 exact wpAny_Name (wpAny_loadName_free I.ok.kind U O Y fin T) hd
theorem ax{i j pos}:PE X (.Constant (.int i) j pos) (tC (.int i)):=λ_ _ _ H _ I h=>wpAny_Constant_int ⟨.int i,H,I.tok _,⟨_,rfl⟩,h⟩
theorem i9{b j pos}:PE X (.Constant (.bool b) j pos) (tC (.bl b)):=λ_ _ _ H _ I h=>Constant_bool ⟨.bl b,H,I,rfl,h⟩
theorem jc{j pos}:PE X (.Constant .none j pos) (tC .aX):=λ_ _ _ H _ I h=>Constant_none ⟨.aX,H,I,rfl,h⟩
def Gl(X:Cx)(x:Str):Prop:=X.env.kindOf x=some .globalImplicit
theorem vf{E:b7}{pins:bO}{s:Shared}{σ:St}{H:Hp}{x:Str}{u:Value}{Q:b7}(I:Inv X pins σ H s)(Y:Gl X x)(U:X.mg x=some u)(h:Q u s)
  (hd:(x==("__debug__":Str))=false:=by decide):wpAny (model X.prog X.w) X.A (eval (.Name x pos) X.env) Q E s:=
 Calls.Name_function_global I.ok.kind Y (Calls.loadGlobal_global (by rw[I.ok.glob];exact I.mod.glob.keeps I.bk) U h) hd
theorem wC{E:b7}{pins:bO}{s:Shared}{σ:St}{H:Hp}{x:Str}{u:Value}{Q:b7}(I:Inv X pins σ H s)(Y:Gl X x)(U:X.mg x=none)(T:bootBuiltins x=some u)(h:Q u s)
  (O:x≠"__name__":=by decide) (hd:(x==("__debug__":Str))=false:=by decide):wpAny (model X.prog X.w) X.A (eval (.Name x pos) X.env) Q E s:=by
 obtain⟨L,N,M⟩:=I.mod.blt;exact Calls.Name_function_global I.ok.kind Y (Calls.loadGlobal_builtin (by rw[I.ok.glob];exact I.mod.glob.keeps I.bk) U (by rw[I.ok.blt];exact N.keeps I.bk) ((M x O).trans T) h) hd
theorem aam{x:Str}{v:V}{u:Value}(Y:Gl X x)(U:X.mg x=some u)(r:RelV v u)(hd:(x==("__debug__":Str))=false:=by decide):PE X (.Name x pos) (tC v):=
 λ_ _ _ H _ I h=>vf I Y U ⟨v,H,I,r,h⟩ hd
variable{a b:Expr}{ta tb:TE}{pos:Pos}
def tB(t:TE):TT:=λσ H Q=>t σ H λx H1=>LI x λc=>Q c H1
theorem tu{e:Expr}{t:TE}(h:PE X e t)(T:∀Y,isTrue e X.env Y=(do let v <-Y;standAt e.pos;holding [v] (truthy v)):=by intro _;rfl):PT X e (tB t):=by
 intro pins s σ H Q I O;refine isTrue_plain (aZ (h pins s σ H _ I O) λv J U=>?_) (T _);mleft;obtain⟨x,H1,N,M,L⟩:=U;mright;obtain⟨d,rfl,q⟩:=EF.mp L;cases M;exact EX ⟨H1,N,q⟩
variable{tA tB':TT}{rest:List Expr}
def aaK(t u:TT):TT:=λσ H Q=>t σ H λc H1=>if c=true then u σ H1 Q else Q false H1
def tOr(t u:TT):TT:=λσ H Q=>t σ H λc H1=>if c=true then Q true H1 else u σ H1 Q
def abM(t:TT):TT:=λσ H Q=>t σ H λc H1=>Q (!c) H1
theorem Kz(Y:PT X a tA):PW X (.BoolOp .And [a] pos) tA:=by
 intro U pins s σ H Q I h;refine isTrue_and (aZ (Y pins s σ H Q I h) λc T e=>?_);cases c with
 |true=>exact isTrue_and_nil e
 |false=>exact e
theorem nU(Y:PT X a tA):PW X (.BoolOp .Or [a] pos) tA:=by
 intro U pins s σ H Q I h;refine isTrue_or (aZ (Y pins s σ H Q I h) λc T e=>?_);cases c with
 |false=>exact isTrue_or_nil e
 |true=>exact e
theorem Ph(O:PT X a tA)(N:PW X (.BoolOp .And (b::rest) pos) tB'):PW X (.BoolOp .And (a::b::rest) pos) (aaK tA tB'):=by
 intro M pins s σ H Q I h;refine isTrue_and (aZ (O pins s σ H _ I h) λc L Y=>?_);obtain⟨H1,U,T⟩:=Y;cases c with
 |true=>exact N M pins L σ H1 Q U T
 |false=>exact⟨H1,U,T⟩
theorem qj(O:PT X a tA)(N:PW X (.BoolOp .Or (b::rest) pos) tB'):PW X (.BoolOp .Or (a::b::rest) pos) (tOr tA tB'):=by
 intro M pins s σ H Q I h;refine isTrue_or (aZ (O pins s σ H _ I h) λc L Y=>?_);obtain⟨H1,U,T⟩:=Y;cases c with
 |true=>exact⟨H1,U,T⟩
 |false=>exact N M pins L σ H1 Q U T
theorem yU(Y:PT X a tA):PT X (.UnaryOp .Not a pos) (abM tA):=by
 intro pins s σ H Q I h;exact isTrue_not (Y pins s σ H (λc H1=>Q (!c) H1) I h)
def YI(ta tb:TE):TE:=λσ H Q=>ta σ H λx H1=>LI x λc=>if c=true then tb σ H1 Q else Q (.bl false) H1
def abC(ta tb:TE):TE:=λσ H Q=>ta σ H λx H1=>LI x λc=>if c=true then Q (.bl true) H1 else tb σ H1 Q
def aca(ta:TE):TE:=λσ H Q=>ta σ H λx H1=>LI x λc=>Q (.bl (!c)) H1
theorem Ip{Y}{t:TE}(h:PE X a t):PE X (.BoolOp Y [a] pos) t:=λpins s σ H Q I U=>BoolOp_one (h pins s σ H Q I U)
theorem N9(O:PE X a ta)(N:PE X (.BoolOp .And (b::rest) pos) tb):PE X (.BoolOp .And (a::b::rest) pos) (YI ta tb):=by
 intro pins s σ H Q I h;refine BoolOp_and (aZ (O pins s σ H _ I h) λv M U=>?_);mleft;obtain⟨x,H1,T,L,Y⟩:=U;mright;obtain⟨c,rfl,Y⟩:=EF.mp Y;cases L;refine EX ?_;cases c with
 |true=>exact N pins M σ H1 Q T Y
 |false=>exact⟨.bl false,H1,T,rfl,Y⟩
theorem acd(O:PE X a ta)(N:PE X (.BoolOp .Or (b::rest) pos) tb):PE X (.BoolOp .Or (a::b::rest) pos) (abC ta tb):=by
 intro pins s σ H Q I h;refine BoolOp_or (aZ (O pins s σ H _ I h) λv M U=>?_);mleft;obtain⟨x,H1,T,L,Y⟩:=U;mright;obtain⟨c,rfl,Y⟩:=EF.mp Y;cases L;refine EX ?_;cases c with
 |false=>exact N pins M σ H1 Q T Y
 |true=>exact⟨.bl true,H1,T,rfl,Y⟩
def tIf(t:TT)(ta tb:TE):TE:=λσ H Q=>t σ H λc H1=>if c=true then ta σ H1 Q else tb σ H1 Q
theorem lY{c:Expr}(N:PT X c tA)(M:PE X a ta)(L:PE X b tb):PE X (.IfExp c a b pos) (tIf tA ta tb):=by
 intro pins s σ H Q I h;refine wpAny_IfExp (aZ (N pins s σ H _ I h) λd U Y=>?_);obtain⟨H1,T,O⟩:=Y;cases d with
 |true=>exact M pins U σ H1 Q T O
 |false=>exact L pins U σ H1 Q T O
end
end
section
variable{tg:Expr}{te:TE}
def dn(K:W.Frag)(H:Hp)(a:Addr)(xs:List V):Prop:=
 Rd H a (.lst xs)\/
  ∃(o:Obj) (Y:Array Value) (n:Nat),K.lookup a=some o/\o.cls=.type "list"/\o.dict=none/\o.data=.seq Y n/\Y.size<=sizeLine/\Vals xs Y.toList
def uN(K:W.Frag)(H:Hp)(a:Addr)(xs:List V):Prop:=
 Rd H a (.tup xs)\/
  ∃(o:Obj) (Y:Array Value) (n:Nat),K.lookup a=some o/\o.cls=.type "tuple"/\o.data=.seq Y n/\Y.size<=sizeLine/\Vals xs Y.toList
def adg:Value->Option V
 |.none=>some .aX
 |.bool b=>some (.bl b)
 |.int i _=>some (.int i)
 |.str x _=>some (.str x)
 |.bytes b _=>some (.qR b)
 |.float b _=>some (.Zj b)
 |.ref a=>some (.ref a)
 |.type n=>some (.ty n)
 |_=>none
theorem RelV.abs{x:V}{u:Value}(r:RelV x u):adg u=some x:=by
 cases x with
 |aX=>cases r;rfl
 |bl _=>cases r;rfl
 |int _=>obtain⟨t,rfl⟩:=r;rfl
 |str _=>obtain⟨t,rfl⟩:=r;rfl
 |qR _=>obtain⟨t,rfl⟩:=r;rfl
 |Zj _=>obtain⟨t,rfl⟩:=r;rfl
 |ref _=>cases r;rfl
 |ty _=>cases r;rfl
theorem RelV.inj{x y:V}{u:Value}(r:RelV x u)(q:RelV y u):x=y:=cp (r.abs.symm.trans q.abs)
theorem Vals.inj:∀{xs ys:List V} {us:List Value},Vals xs us->Vals ys us->xs=ys
 |_,_,_,.nil,.nil=>rfl
 |_,_,_,.cons r t,.cons Y t'=>by rw[r.inj Y,Vals.inj t t']
section
variable{X:Cx}{pins:bO}{σ:St}{H:Hp}{s:Shared}{a:Addr}{xs ys:List V}
theorem dn.of{K:W.Frag}(h:H a=some (.lst xs)):dn K H a xs:=.inl (.inl h)
theorem uN.of{K:W.Frag}(h:H a=some (.tup xs)):uN K H a xs:=.inl (.inl h)
theorem Inv.list(I:Inv X pins σ H s)(h:dn X.K H a xs):∃Y:List Value,Vals xs Y/\PlainL s.heap a Y.toArray/\xs.length<=sizeLine:=by
 rcases h with h|⟨o,Y,n,U,T,hd,Q,hz,r⟩
 .mleft;obtain⟨z,Y,n,r,e⟩:=h.ok I.aQ;mright;exact⟨Y,r,⟨_,n,e,rfl,rfl,rfl⟩,z⟩
 refine⟨Y.toList,r,⟨o,n,I.gT a o U,T,hd,by simpa using Q⟩,?_⟩
 have e:=r.length;simp only[S7]at e;lia
theorem Inv.tuple(I:Inv X pins σ H s)(h:uN X.K H a xs):∃Y:List Value,Vals xs Y/\IsTup s.heap a Y.toArray/\xs.length<=sizeLine:=by
 rcases h with h|⟨o,Y,n,U,T,Q,hz,r⟩
 .mleft;obtain⟨z,Y,r,p⟩:=h.ok I.aQ;mright;exact⟨Y,r,p,z⟩
 refine⟨Y.toList,r,⟨o,I.gT a o U,T,n,by simpa using Q⟩,?_⟩
 have e:=r.length;simp only[S7]at e;lia
theorem Inv.Hj(I:Inv X pins σ H s)(h:dn X.K H a xs)(h':dn X.K H a ys):xs=ys:=by
 mleft;obtain⟨Y,r,⟨o,n,e,_,_,d⟩,_⟩:=I.list h;mright;mleft;obtain⟨its',T,⟨O,N,U,_,_,d'⟩,_⟩:=I.list h';mright;rw[e]at U;cases U;rw[d]at d';injection d' with Q _
 have:Y=its':=by simpa using mR Array.toList Q
 subst this;exact r.inj T
end
abbrev Cx.uz(X:Cx)(E:b7):Cx:={ X with xe:=E }
abbrev Cx.Ox(X:Cx):Cx:=X.uz λ_ _=>False
theorem Cx.Ok.uz{X:Cx}(ok:X.Ok)(E:b7):(X.uz E).Ok:=
 ⟨ok.mod,ok.kind,ok.glob,ok.blt,ok.above,ok.inj,ok.has,ok.N8,ok.hd,ok.frames,ok.B6,ok.Lc,ok.bs,ok.BW,ok.GJ,ok.Dz,ok.qL,ok.JU⟩
theorem Cx.Ok.nQ{X:Cx}{E:b7}(ok:(X.uz E).Ok):X.Ok:=
 ⟨ok.mod,ok.kind,ok.glob,ok.blt,ok.above,ok.inj,ok.has,ok.N8,ok.hd,ok.frames,ok.B6,ok.Lc,ok.bs,ok.BW,ok.GJ,ok.Dz,ok.qL,ok.JU⟩
section
variable{X:Cx}{pins:bO}{σ:St}{H:Hp}{s:Shared}{E:b7}
theorem Inv.uz(I:Inv X pins σ H s)(E:b7):Inv (X.uz E) pins σ H s:=⟨I.ok.uz E,I.os,I.bare,I.base,I.loc,I.cell,I.free,I.g7,I.pin,I.aQ,I.len⟩
theorem Inv.nQ(I:Inv (X.uz E) pins σ H s):Inv X pins σ H s:=⟨I.ok.nQ,I.os,I.bare,I.base,I.loc,I.cell,I.free,I.g7,I.pin,I.aQ,I.len⟩
theorem SP.nQ{D:Ends}{f:Flow}{s':Shared}(h:SP (X.uz E) pins D f s'):SP X pins D f s':=by
 cases f with
 |next=>obtain⟨Y,U,I,q⟩:=h;exact⟨Y,U,I.nQ,q⟩
 |brk=>obtain⟨Y,U,I,q⟩:=h;exact⟨Y,U,I.nQ,q⟩
 |cont=>obtain⟨Y,U,I,q⟩:=h;exact⟨Y,U,I.nQ,q⟩
 |ret u=>obtain⟨v,Y,U,I,r,q⟩:=h;exact⟨v,Y,U,I.nQ,r,q⟩
theorem uM.Ox{st:List Stmt}{t:TS}(h:uM X.Ox st t):uM X st t:=λpins s σ H D I Y =>
 i5 (h pins s σ H D (I.uz _) Y) (λ_ _ q=>q.nQ) λ_ _ z=>False.elim z
end
section
variable{X:Cx}{st:Stmt}{rest:List Stmt}{t u:TS}{e:Expr}{te:TE}{pos:Pos}
def YO:TS:=λD σ H=>D.nx σ H
def Xg(t u:TS):TS:=λD σ H=>t { D with nx:=u D } σ H
theorem bp:uM X [] YO:=λ_ _ σ H _ I h=>Js ⟨σ,H,I,h⟩
theorem ah(U:PS X st t)(T:uM X rest u):uM X (st::rest) (Xg t u):=by
 intro pins s σ H D I h;refine wpAny_execs_cons (aZ (U pins s σ H { D with nx:=u D } I h) λf Q q=>?_)
 cases f with
 |next =>
  mleft;obtain⟨Y,O,N,q⟩:=q;mright;exact T pins Q Y O D N q
 |ret v=>exact q
 |brk=>exact q
 |cont=>exact q
theorem ak(Y:PS X st t):uM X [st] t:=by
 intro pins s σ H D I h;refine wpAny_execs_cons (aZ (Y pins s σ H D I h) λf U q=>?_);cases f with
 |next=>exact Js q
 |ret v=>exact q
 |brk=>exact q
 |cont=>exact q
def WS:TS:=λD σ H=>D.bk σ H
def ZI:TS:=λD σ H=>D.ct σ H
theorem O5:PS X (.Break pos) WS:=λ_ _ σ H _ I h=>wpAny_Break ⟨σ,H,I,h⟩
theorem FZ:PS X (.Continue pos) ZI:=λ_ _ σ H _ I h=>wpAny_Continue ⟨σ,H,I,h⟩
theorem Inv.quiet{pins:bO}{σ:St}{H:Hp}{s:Shared}(I:Inv X pins σ H s):interactive X.env=false:=by simp[interactive,I.ok.kind]
def Ud(te:TE):TS:=λD σ H=>te σ H λ_ H1=>D.nx σ H1
theorem b8(Y:PE X e te)(U:swapsWith e none pos.line X.env=pure false:=by rfl):PS X (.Expr e pos) (Ud te):=by
 intro pins s σ H D I h;exact wpAny_Expr_any (aZ (Y pins s σ H _ I h) λv O ⟨x,H1,T,N,Q⟩=>⟨σ,H1,T,Q⟩) I.quiet U
def Xy(te:TE):TS:=λD σ H=>te σ H D.rt
theorem aK(Y:PE X e te):PS X (.Return (some e) pos) (Xy te):=by
 intro pins s σ H D I h;exact wpAny_Return_some (aZ (Y pins s σ H _ I h) λv O ⟨x,H1,U,T,Q⟩=>⟨x,σ,H1,U,T,Q⟩)
def abR(c:TT)(t u:TS):TS:=λD σ H=>c σ H λb H1=>if b=true then t D σ H1 else u D σ H1
theorem bZ{c:Expr}{a b:List Stmt}{U:TT}(N:PT X c U)(M:uM X a t)(L:uM X b u):PS X (.If c a b pos) (abR U t u):=by
 intro pins s σ H D I h;refine wpAny_If (aZ (N pins s σ H _ I h) λd T Y=>?_);obtain⟨H1,Q,O⟩:=Y;cases d with
 |true=>exact M pins T σ H1 D Q O
 |false=>exact L pins T σ H1 D Q O
end
abbrev TG:=V->St->Hp->(St->Hp->Prop)->Prop
abbrev LU:=List V->St->Hp->(St->Hp->Prop)->Prop
def PG(X:Cx)(Y:Expr)(t:TG):Prop:=
 ∀(pins:bO) (s:Shared) (σ:St) (H:Hp) (v:V) (u:Value) (Q:St->Hp->Prop),Inv X pins σ H s->RelV v u->t v σ H Q->
  wpAny (model X.prog X.w) X.A (assign Y X.env u) (λ_ O=>X2 λU T=>Inv X pins U T O/\Q U T) X.xe s
def Vy(X:Cx)(ts:List Expr)(t:LU):Prop:=
 ∀(pins:bO) (s:Shared) (σ:St) (H:Hp) (vs:List V) (us:List Value) (Q:St->Hp->Prop),Inv X pins σ H s->Vals vs us->t vs σ H Q->
  wpAny (model X.prog X.w) X.A (assignInOrder ((assignEach ts X.env).map (·.2)) us) (λ_ T=>X2 λY U=>Inv X pins Y U T/\Q Y U) X.xe s
abbrev P4:=V->V->V->Hp->(Hp->Prop)->Prop
def XY(X:Cx)(t:P4):Prop:=
 ∀(pins:bO) (s:Shared) (σ:St) (H:Hp) (o i v:V) (Y U u:Value) (Q:Hp->Prop),Inv X pins σ H s->RelV o Y->RelV i U->RelV v u->t o i v H Q->
  wpAny (model X.prog X.w) X.A (setItem Y U u) (λ_ O=>∃T,Inv X pins σ T O/\Q T) X.xe s
abbrev Vf:=V->V->Hp->VK->Prop
def PIp(X:Cx)(Y:Operator)(t:Vf):Prop:=
 ∀(pins:bO) (s:Shared) (σ:St) (H:Hp) (x y:V) (v u:Value) (Q:VK),Inv X pins σ H s->RelV x v->RelV y u->t x y H Q->
  wpAny (model X.prog X.w) X.A (inplaceOp Y v u) (EP X pins σ Q) X.xe s
section
variable{X:Cx}{pos:Pos}
def fi(i:Nat):TG:=λv σ H Q=>Q (σ.set i (some v)) H
theorem aE{i:Nat}{x:Str}(Y:X.N.Nodup)(U:X.N[i]?=some x)(T:Loc X.env.scope x)(O:X.fn x=true\/X.env.scope.names.lookup x=some .local:=by first|exact .inl rfl|exact .inr rfl|assumption):PG X (.Name x pos) (fi i):=by
 intro pins s σ H v u Q I r h;exact UU (AU I Y U T r (λL M=>⟨_,H,M,h⟩) O)
def C6:LU:=λvs σ H Q=>Zz vs (Q σ H)
def lu(t:TG)(u:LU):LU:=λvs σ H Q=>Zf vs λv r=>t v σ H λY U=>u r Y U Q
theorem d9:Vy X [] C6:=by
 intro pins s σ H vs us Q I r h;obtain⟨e,h⟩:=ZP.mp h;subst e;cases r;exact assignInOrder_nil ⟨σ,H,I,h⟩
theorem bu{e:Expr}{Y:List Expr}{t:TG}{u:LU}(O:PG X e t)(N:Vy X Y u)
  (M:(assignEach (e::Y) X.env).map (·.2)=assign e X.env::(assignEach Y X.env).map (·.2):=by rfl):Vy X (e::Y) (lu t u):=by
 intro pins s σ H vs us Q I r h;mleft;obtain⟨v,C,L,h⟩:=aaq.mp h;mright;subst L;cases r with
 |cons r J =>
  rw[M];refine assignInOrder_cons (aZ (O pins s σ H _ _ _ I r h) λ_ G U=>?_);mleft;obtain⟨T,H1,E,D⟩:=U;mright;exact N pins G T H1 _ _ Q E J D
def Ba(K:W.Frag)(n:Nat)(t:LU):TG:=λv σ H Q=>Fv v λa=>∃xs,uN K H a xs/\xs.length=n/\t xs σ H Q
theorem zB{Y:List Expr}{k:Nat}{t:LU}{n:Nat}(N:X.calm=true)(h:Vy X Y t)
  (M:(assignEach Y X.env).length=n:=by rfl) (U:(assignEach Y X.env).findIdx? (·.1)=none:=by rfl):PG X (.Tuple Y k pos) (Ba X.K n t):=by
 intro pins s σ H v u Q I r L;mleft;obtain⟨a,J,xs,G,E,T⟩:=oZ.mp L;mright;subst J;cases r;mleft;obtain⟨D,O,C,hz⟩:=I.tuple G;mright;refine assign_Tuple_tuple (I.ok.hd N) C (by simp[M,<-E,O.length]) U λh' B=>?_
 have A:Inv X pins σ H { s with heap:=h' }:=I.kept (t':=s.toks) λb o e=>B b o (fZ (bV e)) e
 exact h pins _ σ H xs _ Q A (by simpa using O) T
def Yk(Y U:TE)(t:P4):TG:=λv σ H Q=>Y σ H λo H1=>U σ H1 λi T=>t o i v T λO=>Q σ O
theorem Ho{o i:Expr}{O N:TE}{t:P4}(M:PE X o O)(L:PE X i N)(J:XY X t)
  (G:∀v,assign (.Subscript o i pos) X.env v=(do
   let U <-holding [v] (eval o X.env)
   let T <-holding [v,U] (eval i X.env)
   standAt pos
   holding [v,U,T] (setItem U T v)
   release [v,U,T] []):=by intro _;rfl):PG X (.Subscript o i pos) (Yk O N t):=by
 intro pins s σ H v u Q I r h;rw[G];refine aA (wX (aZ (M pins s σ H _ I h) λU E Y=>?_));mleft;obtain⟨x,H1,D,C,B⟩:=Y;mright;refine aA (wX (aZ (L pins E σ H1 _ D B) λT A Y=>?_));mleft;obtain⟨y,z,q,p,n⟩:=Y;mright;refine aA (AS (aA (wX (aZ (J pins A σ z x y v U T u _ q C p r n) λ_ g Y=>?_))));obtain⟨m,l,j⟩:=Y;exact wpAny_release ⟨σ,m,l,j⟩
def Kc(te:TE)(g:TG):TS:=λD σ H=>te σ H λx H1=>g x σ H1 D.nx
theorem ID{e:Expr}{g:TG}(U:PE X e te)(T:PG X tg g)(Q:swapsWithSole [tg] e pos.line X.env=pure false:=by rfl)(O:swappedStores [tg] e X.env=pure none:=by rfl)
  (N:(assignEach [tg] X.env).map (·.2)=[assign tg X.env]:=by rfl):PS X (.Assign [tg] e pos) (Kc te g):=by
 intro pins s σ H D I h;refine wpAny_Assign_stores (aZ (U pins s σ H _ I h) λv M Y=>?_) Q O;mleft;obtain⟨x,H1,L,J,G⟩:=Y;mright;rw[N];exact aZ (T pins M σ H1 x v _ L J G) λ_ E q=>q
theorem aH{i:Nat}{x:Str}{e:Expr}{Y:Pos}(T:X.N.Nodup)(Q:X.N[i]?=some x)(O:Loc X.env.scope x)(M:PE X e te)(L:swapsWith e (some (.Name x Y)) pos.line X.env=pure false:=by rfl)(J:X.fn x=true\/X.env.scope.names.lookup x=some .local:=by first|exact .inl rfl|exact .inr rfl|assumption) :
  PS X (.Assign [.Name x Y] e pos) (Kc te (fi i)):=by
 intro pins s σ H D I h;refine wpAny_Assign_Name (aZ (M pins s σ H _ I h) λv A U=>?_) L;mleft;obtain⟨y,H1,G,E,C⟩:=U;mright;exact AU G T Q O E (λz B=>⟨_,H1,B,C⟩) J
def abX(i:Nat)(te:TE)(Y:Vf):TS:=λD σ H=>VF σ[i]? λx=>te σ H λy H1=>Y x y H1 λz U=>D.nx (σ.set i (some z)) U
theorem QL{i:Nat}{x:Str}{e:Expr}{L:Operator}{E:Vf}{Q:Pos}(B:X.N.Nodup)(C:X.N[i]?=some x)(J:Loc X.env.scope x)(q:PE X e te)(p:PIp X L E)(o:X.fn x=true\/X.env.scope.names.lookup x=some .local:=by first|exact .inl rfl|exact .inr rfl|assumption) :
  PS X (.AugAssign (.Name x Q) L e pos) (abX i te E):=by
 intro pins s σ H D I h;obtain⟨v,n,h⟩:=KJ.mp h;obtain⟨m,j,g⟩:=I.loc;have G:RH X.env.scope x:=by rcases J with k|k;exact .inl k;exact .inr (.inl k)
 obtain⟨u,r,l⟩:=g i x v C n G;refine wpAny_AugAssign_Name ?_;have go:wpAny (model X.prog X.w) X.A (eval e X.env) (λw O=>wpAny (model X.prog X.w) X.A (inplaceOp L u w) (λr M=>wpAny (model X.prog X.w) X.A (storeName X.env x r) (λ_=>SP X pins D .next) X.xe M) X.xe O) X.xe s:=by
  refine aZ (q pins s σ H _ I h) λw f U=>?_;mleft;obtain⟨y,H1,d,b,a⟩:=U;mright;refine aZ (p pins f σ H1 v y u w _ d r b a) λz s2 U=>?_;mleft;obtain⟨zv,H2,I2,r2,q2⟩:=U;mright;exact AU I2 B C J r2 (λs3 I3=>⟨_,H2,I3,q2⟩) o
 rcases l with⟨Y,hm⟩|⟨Y,c,hc,T⟩
 .exact wpAny_loadName_local I.ok.kind Y j hm go
 rcases Y with Y|Y
 .exact wpAny_loadName_cell I.ok.kind Y hc T go
 rcases J with k|k
 .have:X.env.scope.names.lookup x=some .free:=Y;rw[k]at this;cases this
 have:X.env.scope.names.lookup x=some .free:=Y;rw[k]at this;cases this
def UO(Q O te:TE)(Y:V->V->Hp->VK->Prop)(T:Vf)(U:P4):TS:=λD σ H=>Q σ H λo H1=>O σ H1 λi N=>Y o i N λx M=>te σ M λy L=>T x y L λz J=>U o i z J λI=>D.nx σ I
def abp(X:Cx)(t:V->V->Hp->VK->Prop):Prop:=
 ∀(pins:bO) (s:Shared) (σ:St) (H:Hp) (o i:V) (Y U:Value) (Q:VK),Inv X pins σ H s->RelV o Y->RelV i U->t o i H Q->
  wpAny (model X.prog X.w) X.A (getItem Y U) (EP X pins σ Q) X.xe s
theorem aaJ{o i e:Expr}{G E:TE}{T:V->V->Hp->VK->Prop}{M:Vf}{Q:P4}{C:Operator}{L:Pos}(u:PE X o G)(r:PE X i E)(q:abp X T)(p:PE X e te)(n:PIp X C M)(m:XY X Q)
  (l:∀O N U,augStore i O N U=(do holding [U,O,N] (setItem O N U);release [U,O,N] [];pure .next):=by intros;rfl):PS X (.AugAssign (.Subscript o i L) C e pos) (UO G E te T M Q):=by
 intro pins s σ H D I h;refine wpAny_AugAssign_SubscriptAny (aZ (u pins s σ H _ I h) λO j Y=>?_) l;mleft;obtain⟨B,H1,g,A,f⟩:=Y;mright;refine aZ (r pins j σ H1 _ g f) λN d Y=>?_;mleft;obtain⟨z,c,b,y,a⟩:=Y;mright;refine aZ (q pins d σ c B z O N _ b A y a) λJ s3 Y=>?_;mleft;obtain⟨x3,H3,I3,r3,q3⟩:=Y;mright;refine aZ (p pins s3 σ H3 _ I3 q3) λv s4 Y=>?_;mleft;obtain⟨x4,H4,I4,r4,q4⟩:=Y;mright;refine aZ (n pins s4 σ H4 x3 x4 J v _ I4 r3 r4 q4) λU s5 Y=>?_;mleft;obtain⟨x5,H5,I5,r5,q5⟩:=Y;mright;exact aZ (m pins s5 σ H5 B z x5 O N U _ I5 A y r5 q5) λ_ s6 ⟨H6,I6,q6⟩=>⟨σ,H6,I6,q6⟩
end
section
variable{X:Cx}{pos:Pos}
def aa1(c:TT)(Q:TS):TS:=λD σ H=>∃W:Nat->St->Hp->Prop,(∃m,W m σ H)/\∀m σ H,W m σ H->
 c σ H λb H1=>if b=true then ∃N:St->Hp->Prop,(∀Y U,N Y U->∃T,T<m/\W T Y U)/\Q { D with nx:=N,ct:=N,bk:=D.nx } σ H1 else D.nx σ H1
theorem G6{c:Expr}{T:List Stmt}{u:TT}{r:TS}(q:PassesOwn (model X.prog X.w) X.A X.env X.xe)(j:PT X c u)(i:uM X T r):PS X (.While c T [] pos) (aa1 u r):=by
 intro pins s σ H D I h;mleft;obtain⟨W,⟨g,e⟩,Q⟩:=h;mright;refine wpAny_While (codeAny_whileLoop (λn d=>∃O p,Inv X pins O p d/\W n O p) ?_ g ⟨σ,H,I,e⟩);rintro n a ⟨U,H1,I1,w1⟩;refine Aj q (aZ (j pins a U H1 _ I1 (Q n U H1 w1)) λb s2 G=>?_);obtain⟨o,m,L⟩:=G;cases b with
 |true =>
  obtain⟨N,l,L⟩:=L;rw[ag rfl];refine Aj q (aZ (i pins s2 U o _ m L) λf s3 J=>?_);cases f with
  |next =>
   mleft;obtain⟨Y,M,E,C⟩:=J;mright;obtain⟨B,z,y⟩:=l Y M C;exact⟨B,z,Y,M,E,y⟩
  |cont =>
   mleft;obtain⟨Y,M,E,C⟩:=J;mright;obtain⟨B,z,y⟩:=l Y M C;exact⟨B,z,Y,M,E,y⟩
  |brk=>exact J
  |ret v=>exact J
 |false =>
  rw[ae f9];exact Js ⟨U,o,m,L⟩
end
structure It where
 go:Nat->Hp->Prop
 IE:Nat->Hp->V->Hp->Prop
 stop:Nat->Hp->Prop
def oX(X:Cx)(pins:bO)(H:Hp)(b:Addr):Prop:=
 H b=none/\b≠X.env.locals/\b∉X.fs/\(b∈X.ex\/X.m7.heap.objs.size<=b)/\(∀x c,X.env.cells.lookup x=some c->c≠b)/\∀p∈X.pn++pins,p.1≠b
theorem Inv.Gw{X:Cx}{pins:bO}{σ:St}{H U:Hp}{s:Shared}{b:Addr}(I:Inv X pins σ H s)(Y:s.heap.objs.size<=b)(T:U b=none):oX X pins U b:=by
 refine⟨T,Aw (eE I.lt Y),I.ac9 Y,.inr (bT I.sz Y),λx c e z=>?_,λp Q z=>?_⟩
 .obtain⟨v,q⟩:=I.cell x c e;exact absurd (eE q.lt (by rw[z];exact Y)) (uo _)
 exact absurd (eE (bV (I.pin p Q).1) (by rw[z];exact Y)) (uo _)
structure Turn(P:Program)(w:World)(K:W.Frag)(tg:Expr)(J:It)(fp:List Addr)(it:Addr)(tn:Nat->Heap->Prop):Prop where
 mem:it∈fp
 obj:∀i h,tn i h->∀b∈fp,∃o,h.get? b=some o/\∀v,o.data≠.cell v
 keep:∀i h h',tn i h->(∀b∈fp,∀o,h.get? b=some o->h'.get? b=some o)->tn i h'
 item:∀(X:Cx),X.prog=P->X.w=w->X.K=K->X.calm=true->∀(i:Nat) (pins:bO) (s:Shared) (σ:St) (H:Hp) (E:b7),Inv X pins σ H s->(∀b∈fp,oX X pins H b)->tn i s.heap->J.go i H->
  wpAny (model P w) X.A (pyNext (.ref it)) (λr s1=>∃u,r=some u/\
   wpAny (model P w) X.A (letOwnedTupleGo tg (.ref it) u) (λ_ s2=>∃x H',Inv X pins σ H' s2/\RelV x u/\J.IE i H x H'/\tn (i+1) s2.heap/\∀b∈fp,H' b=none) E s1) E s
 done:∀(X:Cx),X.prog=P->X.w=w->X.K=K->X.calm=true->∀(i:Nat) (pins:bO) (s:Shared) (σ:St) (H:Hp) (E:b7),Inv X pins σ H s->(∀b∈fp,oX X pins H b)->tn i s.heap->J.stop i H->
  wpAny (model P w) X.A (pyNext (.ref it)) (λr s1=>r=none/\Inv X pins σ H s1) E s
 self:∀(A:Around) (i:Nat) (s:Shared) (Q:b7) (E:b7),tn i s.heap->Q (.ref it) s->wpAny (model P w) A (pyIter (.ref it)) Q E s
abbrev TI:=St->Hp->(It->Hp->Prop)->Prop
def Vm(X:Cx)(pins:bO)(σ:St)(tg:Expr)(R:It->Hp->Prop)(Y:Value)(T:Shared):Prop:=
 ∃(Q:Addr) (O:List Addr) (N:Nat->Heap->Prop) (J:It) (U:Hp),Y=.ref Q/\Inv X pins σ U T/\Turn X.prog X.w X.K tg J O Q N/\N 0 T.heap/\(∀b∈O,oX X pins U b)/\R J U
def PI(X:Cx)(tg iter:Expr)(Y:TI):Prop:=
 ∀(pins:bO) (s:Shared) (σ:St) (H:Hp) (R:It->Hp->Prop),Inv X pins σ H s->Y σ H R->
  wpAny (model X.prog X.w) X.A (eval iter X.env) (λv U=>wpAny (model X.prog X.w) X.A (pyIter v) (Vm X pins σ tg R) X.xe U) X.xe s
theorem HG{M:Model}{A:Around}{E:b7}{s:Shared}{U:Addr}{u:Value}{o:Obj}{n:String}{vs:Array Value}{Q:Unit->Shared->Prop}(T:s.heap.get? U=some o)(O:o.cls=.type n)(hd:o.data=.fields vs)
  (N:["enumerate","zip","dict_itemiterator","dict_reverseitemiterator","odict_iterator","itertools.zip_longest","itertools.pairwise"].contains n=false) (Y:Q () s):wpAny M A (letOwnedTupleGo tg (.ref U) u) Q E s:=by
 unfold letOwnedTupleGo;cases tg<;>first
  |exact bf Y
  | (cases u<;>first
    |exact bf Y
    | (refine aA (wpAny_load T ?_)
       rw[O,hd];show wpAny M A (if (["enumerate","zip","dict_itemiterator","dict_reverseitemiterator","odict_iterator","itertools.zip_longest","itertools.pairwise"].contains n&&vs[0]?==some (rawInt _))=true then _ else _) Q E s
       rw[ae (by intro h;rw[N,IG]at h;cases h)]
       exact bf Y))
def Lj(K:W.Frag)(a:Addr):It:=
 ⟨λi H=>∃xs x,dn K H a xs/\xs[i]?=some x,λi H x Y=>Y=H/\∀xs,dn K H a xs->xs[i]?=some x,λi H=>∃xs,dn K H a xs/\xs.length<=i⟩
def FG(lo:Int)(n:Nat):It:=⟨λi _=>i<n,λi H x Y=>Y=H/\x=.int (lo+i),λi _=>n<=i⟩
theorem V8{P:Program}{w:World}{K:W.Frag}(a it:Addr):Turn P w K tg (Lj K a) [it] it (λi h=>h.IsListIter it a i) where
 mem:=by simp
 obj:=λi h st b Y=>by
  have e:b=it:=by simpa using Y
  subst e;mleft;obtain⟨o,e,c,d⟩:=st;mright;exact⟨o,e,λv z=>by rw[d]at z;cases z⟩
 keep:=λi h h' st k=>st.at λo e=>k it aP o e
 item:=by
  intro X O N M q i pins s σ H E I T st L;subst O N M;mleft;obtain⟨xs,x,Q,J⟩:=L;mright;mleft;obtain⟨G,D,p,hz⟩:=I.list Q;mright;obtain⟨u,n,m⟩:=D.get J;mleft;obtain⟨C,B,l,A,y,r⟩:=T it aP;mright;refine wpAny_pyNext_list_item st p.isList (x:=u) (by simpa using n) λh' U j=>?_
  have g:Inv X pins σ H { s with heap:=h' }:=I.turned (t':=s.toks) (λb o Y e=>(j.2 b Y).trans e) C B A y r
  mleft;obtain⟨o,e,c,d⟩:=id U;mright;exact⟨u,rfl,HG (s:={ s with heap:=h' }) e c d aG ⟨x,H,g,m,⟨rfl,λys f=>by rw[I.Hj f Q];exact J⟩,U,λb Y=>(T b Y).1⟩⟩
 done:=by
  intro X O N M q i pins s σ H E I T st L;subst O N M;obtain⟨xs,Q,J⟩:=L;mleft;obtain⟨G,D,p,hz⟩:=I.list Q;mright;mleft;obtain⟨C,B,l,A,y,r⟩:=T it aP;mright;have hl:=D.length;exact wpAny_pyNext_list_end (I.ok.hd q) st p.isList (by simp;lia) λh' eb=>⟨rfl,I.turned (t':=s.toks) (λb o Y e=>eb b o Y e) C B A y r⟩
 self:=λ_ _ _ _ _ st h=>wpAny_pyIter_listiter st h
theorem TN{P:Program}{w:World}{K:W.Frag}(it:Addr)(lo:Int)(n:Nat):Turn P w K tg (FG lo n) [it] it (λi h=>IsRangeIter h it (lo+(i:Nat)*1) ((n:Int) - (i:Nat)) 1) where
 mem:=by simp
 obj:=λi h st b Y=>by
  have e:b=it:=by simpa using Y
  subst e;exact⟨_,st,λv z=>by
   have A:Data.fields _=Data.cell v:=z;cases A⟩
 keep:=λi h h' st k=>k it aP _ st
 item:=by
  intro X Q O N M i pins s σ H E I T st L;subst Q O N;mleft;obtain⟨J,G,y,D,C,B⟩:=T it aP;mright;have W:=Walks.range (prog:=X.prog) (w:=X.w) (I.ok.hd M) it lo 1 n;refine W.item i s _ _ L st λv h' tk u U r=>?_;obtain⟨t,rfl⟩:=u;have q:Inv X pins σ H { s with heap:=h',toks:=tk }:=I.turned (λb o Y e=>r b o (by simpa using Y) e) J G D C B
  refine⟨_,rfl,HG (s:={ s with heap:=h',toks:=tk }) (n:="range_iterator") U rfl rfl aG ⟨.int (lo+i),H,q,⟨t,?_⟩,⟨rfl,rfl⟩,U,λb Y=>(T b Y).1⟩⟩
  rw[Int.mul_one]
 done:=by
  intro X Q O N M i pins s σ H E I T st L;subst Q O N;mleft;obtain⟨J,G,y,D,C,B⟩:=T it aP;mright;exact wpAny_pyNext_range_end (I.ok.hd M) st (by have:n<=i:=L;lia) λh' p=>⟨rfl,I.turned (t':=s.toks) (λb o Y e=>p b o Y e) J G D C B⟩
 self:=λ_ _ _ _ _ st h=>wpAny_pyIter_rangeiter st h
end
section
variable{σ:St}{pos:Pos}{fp:List Addr}{tb:TS}
section
variable{X:Cx}{tg:Expr}
def Az(K:W.Frag)(tl:TE):TI:=λσ H R=>tl σ H λx H1=>∃a,x=.ref a/\(∃xs,dn K H1 a xs)/\R (Lj K a) H1
theorem dc{l:Expr}{tl:TE}(Q:PE X l tl):PI X tg l (Az X.K tl):=by
 intro pins s σ H R I h;refine aZ (Q pins s σ H _ I h) λv Y T=>?_;mleft;obtain⟨x,H1,U,O,N⟩:=T;mright;mleft;obtain⟨a,e,⟨xs,M⟩,q⟩:=N;mright;subst e;cases O;mleft;obtain⟨L,G,p,hz⟩:=U.list M;mright;refine wpAny_pyIter_list p.isList ?_;refine⟨Y.heap.objs.size,[Y.heap.objs.size],_,_,H1,rfl,U.kept (t':=Y.toks) λb o e=>cA _ e,V8 a _,⟨_,eR _ rfl,rfl,rfl⟩,λb J=>?_,q⟩;have e:b=Y.heap.objs.size:=by simpa using J
 subst e;exact U.Gw (bD _) (U.aQ.fresh (bD _))
theorem Ob{pins:bO}{H:Hp}{s:Shared}{R:It->Hp->Prop}{E:b7}{lo Y:Int}{t u v:Tok}{tk:Nat}(I:Inv X pins σ H s)(T:-(2 ^ 62)<=lo)(Q:lo<2 ^ 62)(O:-(2 ^ 62)<=Y)(N:Y<2 ^ 62)
  (q:R (FG lo (Y - lo).toNat) H):wpAny (model X.prog X.w) X.A (pyIter (.ref s.heap.objs.size)) (Vm X pins σ tg R) E { s with heap:=s.heap.push { cls:=.type "range",data:=.fields #[.int lo t,.int Y u,.int 1 v] },toks:=tk }:=by
 refine wpAny_pyIter_range (IsRange.new ..) (small_one T Q O N) ?_;have U:Inv X pins σ H { s with heap:=s.heap.push { cls:=.type "range",data:=.fields #[.int lo t,.int Y u,.int 1 v] },toks:=tk }:=I.kept λb o e=>cA _ e
 refine⟨(s.heap.push { cls:=.type "range",data:=.fields #[.int lo t,.int Y u,.int 1 v] }).objs.size,[(s.heap.push { cls:=.type "range",data:=.fields #[.int lo t,.int Y u,.int 1 v] }).objs.size],_,_,H,rfl,
  U.kept (t':=tk) λb o e=>cA _ e,TN _ lo (Y - lo).toNat,?_,λb M=>?_,q⟩
 .have L:lo+((0:Nat):Int)*1=lo:=by simp
  have J:(((Y - lo).toNat:Nat):Int) - ((0:Nat):Int)=Builtin.Range.rangeSize lo Y 1:=by rw[rangeSize_one];split<;>lia
  show IsRangeIter _ _ (lo+((0:Nat):Int)*1) ((((Y - lo).toNat:Nat):Int) - ((0:Nat):Int)) 1;rw[L,J];exact eR _ rfl
 have e:b=(s.heap.push { cls:=.type "range",data:=.fields #[.int lo t,.int Y u,.int 1 v] }).objs.size:=by simpa using M
 subst e;exact U.Gw (bD _) (U.aQ.fresh (bD _))
def M8(Y:TA):TI:=λσ H R=>Y σ H λvs H1=>∃j:Int,vs=[.int j]/\-(2 ^ 62)<=j/\j<2 ^ 62/\R (FG 0 j.toNat) H1
def YV(Y:TA):TI:=λσ H R=>Y σ H λvs H1=>∃i j:Int,vs=[.int i,.int j]/\(-(2 ^ 62)<=i/\i<2 ^ 62/\-(2 ^ 62)<=j/\j<2 ^ 62)/\R (FG i (j - i).toNat) H1
theorem eL{a:Expr}{T:TA}{p:Pos}(Q:Gl X "range")(O:X.mg "range"=none)(N:PA X [a] T)(M:starEach [a] X.env=[(false,eval a X.env)]:=by rfl):PI X tg (.Call (.Name "range" p) [a] [] pos) (M8 T):=by
 intro pins s σ H R I h;refine Call_ (wC I Q O boot_range (Ji (aZ (N pos pins s σ H _ I h) λus D Y=>?_) M rfl));mleft;obtain⟨vs,H1,L,J,U⟩:=Y;mright;mleft;obtain⟨j,e,U,G,q⟩:=U;mright;subst e;cases J with
 |cons r E =>
  cases E;obtain⟨t,rfl⟩:=r;exact call_range_1 (Ob L ao ao U G (by simpa using q))
theorem C5{a b:Expr}{O:TA}{p:Pos}(N:Gl X "range")(M:X.mg "range"=none)(L:PA X [a,b] O)(J:starEach [a,b] X.env=[(false,eval a X.env),(false,eval b X.env)]:=by rfl)(Y:starEach [b] X.env=[(false,eval b X.env)]:=by rfl) :
  PI X tg (.Call (.Name "range" p) [a,b] [] pos) (YV O):=by
 intro pins s σ H R I h;refine Call_ (wC I N M boot_range (Ji (aZ (L pos pins s σ H _ I h) λus z U=>?_) (by rw[J,Y]) (by rw[Y];rfl)))
 mleft;obtain⟨vs,H1,G,E,T⟩:=U;mright;mleft;obtain⟨i,j,e,⟨T,D,C,B⟩,q⟩:=T;mright;subst e;cases E with
 |cons r Q =>
  cases Q with
  |cons A Q =>
   cases Q;obtain⟨t,rfl⟩:=r;obtain⟨t',rfl⟩:=A;exact call_range_2 (Ob G T D C B q)
def wy(O:TI)(g:TG)(tb:TS):TS:=λD σ H=>O σ H λJ H1=>∃W:Nat->Nat->St->Hp->Prop,(∃m,W 0 m σ H1)/\∀i m σ H,W i m σ H->
 (J.stop i H/\D.nx σ H)\/(J.go i H/\∃N:St->Hp->Prop,(∀Y U,N Y U->∃Q,Q<m/\W (i+1) Q Y U)/\∀x U,J.IE i H x U->g x σ U λT M=>tb { D with nx:=N,ct:=N,bk:=D.nx } T M)
def zG(fp:List Addr)(h:Heap):bO:=fp.filterMap λb=>(h.get? b).map λo=>(b,o)
theorem uY{h:Heap}{b:Addr}{o:Obj}(Y:b∈fp)(e:h.get? b=some o):(b,o)∈zG fp h:=UN.mpr ⟨b,Y,by rw[e];rfl⟩
theorem VZ{h:Heap}{p:Addr×Obj}(Y:p∈zG fp h):p.1∈fp/\h.get? p.1=some p.2:=by
 obtain⟨b,U,e⟩:=UN.mp Y;cases q:h.get? b with
 |none=>rw[q]at e;cases e
 |some o =>
  rw[q]at e;have T:(b,o)=p:=cp e;subst T;exact⟨U,q⟩
theorem Inv.pinned{pins:bO}{H:Hp}{s:Shared}(I:Inv X pins σ H s)(T:∀b∈fp,oX X pins H b)(Q:∀b∈fp,∃o,s.heap.get? b=some o/\∀v,o.data≠.cell v):Inv X (pins++zG fp s.heap) σ H s:=
 I.RT λp O=>(lV.mp O).elim (λz=>I.pin p (um _ z)) λz=>by
  obtain⟨Y,e⟩:=VZ z;mleft;obtain⟨N,M,L,_⟩:=T p.1 Y;mright;obtain⟨o,U,d⟩:=Q p.1 Y;rw[e]at U;cases U;exact⟨e,N,M,L,d⟩
theorem Inv.wd{pins pl:bO}{H:Hp}{s:Shared}(I:Inv X (pins++pl) σ H s):Inv X pins σ H s:=I.RT λp Y=>I.pin p (um _ (ND _ Y))
theorem cz{iter:Expr}{C:List Stmt}{wi:TI}{g:TG}(y:PassesOwn (model X.prog X.w) X.A X.env X.xe)(hc:X.calm=true)(hi:PI X tg iter wi)(hg:PG X tg g)(Q:uM X C tb)
  (hs:∀x,foldedSetIterable iter X.env x=pure x:=by intro _;rfl):PS X (.For tg iter C [] pos) (wy wi g tb):=by
 intro pins s σ H D I h;refine wpAny_For (aZ (hi pins s σ H _ I h) λv s1 h1=>aZ h1 λan s2 h2=>?_) hs;mleft;obtain⟨it,fp,tn,J,H2,e,I2,T,a,f2,W,⟨m0,w0⟩,q⟩:=h2;mright;subst e;have O:∀{H':Hp},(∀b∈fp,H' b=none)->∀b∈fp,oX X pins H' b:=λhn b Q=>⟨hn b Q,(f2 b Q).2⟩;refine codeAny_forLoop_any (λn s'=>∃i M H',Inv X pins M H' s'/\tn i s'.heap/\(∀b∈fp,H' b=none)/\W i n M H') ?_ m0 ⟨0,σ,H2,I2,a,λb Q=>(f2 b Q).1,w0⟩;rintro n s3 ⟨i,L,c,I3,p,l,w3⟩;rcases q i n L c w3 with⟨stop,qn⟩|⟨go,N,hN,step⟩
 .refine Aj y (aZ (T.done X rfl rfl rfl hc i pins s3 L c X.xe I3 (O l) p stop) λr s4 U=>?_);obtain⟨hr,I4⟩:=U;subst hr;exact Js ⟨L,c,I4,qn⟩
 refine Aj y (aZ (T.item X rfl rfl rfl hc i pins s3 L c X.xe I3 (O l) p go) λr s4 U=>?_);obtain⟨u,hr,h4⟩:=U;subst hr;refine Aj y (aZ h4 λ_ s5 U=>?_);mleft;obtain⟨x,H5,I5,r5,y5,z,ab⟩:=U;mright;have al:=I5.pinned (O ab) (T.obj _ _ z);refine Aj y (aZ (hg _ s5 L H5 x u _ al r5 (step x H5 y5)) λ_ s6 U=>?_);mleft;obtain⟨am,H6,I6,q6⟩:=U;mright;refine Aj y (aZ (Q _ s6 am H6 _ I6 q6) λf s7 B=>?_);have again:∀{Y:St} {G:Hp},Inv X (pins++zG fp s5.heap) Y G s7->N Y G->∃m,m<n/\∃i M H',Inv X pins M H' s7/\tn i s7.heap/\(∀b∈fp,H' b=none)/\W i m M H':=λ{Y G} E j=>by
  obtain⟨m',hm,w7⟩:=hN Y G j;refine⟨m',hm,i+1,Y,G,E.wd,T.keep _ _ _ z λb Q o e=>(E.pin (b,o) (um _ (um _ (uY Q e)))).1,λb Q=>?_,w7⟩;obtain⟨o,e,d⟩:=T.obj _ _ z b Q;exact(E.pin (b,o) (um _ (um _ (uY Q e)))).2.1
 cases f with
 |next=>obtain⟨Y,G,E,j⟩:=B;exact again E j
 |cont=>obtain⟨Y,G,E,j⟩:=B;exact again E j
 |brk=>obtain⟨Y,G,E,B⟩:=B;exact⟨Y,G,E.wd,B⟩
 |ret v=>obtain⟨x7,Y,G,E,r7,B⟩:=B;exact⟨x7,Y,G,E.wd,r7,B⟩
end
theorem Yf{K:W.Frag}{a:Addr}{xs:List V}{g:TG}{D:Ends}{H:Hp}(Pv:Nat->St->Hp->Prop)(L:Pv 0 σ H)(J:∀i σ H,i<=xs.length->Pv i σ H->dn K H a xs)
  (I:∀i x σ H,xs[i]?=some x->Pv i σ H->g x σ H λY O=>tb { D with nx:=Pv (i+1),ct:=Pv (i+1),bk:=D.nx } Y O) (hd:∀σ H,Pv xs.length σ H->D.nx σ H) :
  ∃W:Nat->Nat->St->Hp->Prop,(∃m,W 0 m σ H)/\∀i m σ H,W i m σ H->
   ((Lj K a).stop i H/\D.nx σ H)\/((Lj K a).go i H/\∃N:St->Hp->Prop,(∀U T,N U T->∃M,M<m/\W (i+1) M U T)/\∀x T,(Lj K a).IE i H x T->g x σ T λY O=>tb { D with nx:=N,ct:=N,bk:=D.nx } Y O):=by
 refine⟨λi m σ H=>m=xs.length - i/\i<=xs.length/\Pv i σ H,⟨xs.length,by simp,dy _,L⟩,?_⟩
 rintro i m σ H ⟨rfl,G,p⟩;have q:=J i σ H G p;by_cases Q:i<xs.length
 .refine .inr ⟨⟨xs,xs[i],q,by simp[Q]⟩,Pv (i+1),λU T E=>⟨xs.length - (i+1),ao,rfl,Q,E⟩,λx T y=>?_⟩
  obtain⟨e,y⟩:=y;subst e;exact I i x σ _ (y xs q) p
 have e:i=xs.length:=by lia
 subst e;exact .inl ⟨⟨xs,q,bD _⟩,hd σ H p⟩
theorem Lg{lo:Int}{n:Nat}{g:TG}{D:Ends}{H:Hp}(Pv:Nat->St->Hp->Prop)(L:Pv 0 σ H)
  (J:∀i σ H,i<n->Pv i σ H->g (.int (lo+i)) σ H λY O=>tb { D with nx:=Pv (i+1),ct:=Pv (i+1),bk:=D.nx } Y O) (hd:∀σ H,Pv n σ H->D.nx σ H) :
  ∃W:Nat->Nat->St->Hp->Prop,(∃m,W 0 m σ H)/\∀i m σ H,W i m σ H->
   ((FG lo n).stop i H/\D.nx σ H)\/((FG lo n).go i H/\∃N:St->Hp->Prop,(∀U T,N U T->∃M,M<m/\W (i+1) M U T)/\∀x T,(FG lo n).IE i H x T->g x σ T λY O=>tb { D with nx:=N,ct:=N,bk:=D.nx } Y O):=by
 refine⟨λi m σ H=>m=n - i/\i<=n/\Pv i σ H,⟨n,by simp,dy _,L⟩,?_⟩
 rintro i m σ H ⟨rfl,G,p⟩;by_cases Q:i<n
 .refine .inr ⟨Q,Pv (i+1),λU T I=>⟨n - (i+1),ao,rfl,Q,I⟩,λx T y=>?_⟩;obtain⟨e,y⟩:=y;subst e y;exact J i σ _ Q p
 have e:i=n:=by lia
 subst e;exact .inl ⟨bD _,hd σ H p⟩
end
section
abbrev R2:=V->V->Hp->VK->Prop
def iy(X:Cx)(f:Value->Value->Sem Value)(r:R2):Prop:=
 ∀(pins:bO) (s:Shared) (σ:St) (H:Hp) (x y:V) (v u:Value) (Q:VK),Inv X pins σ H s->RelV x v->RelV y u->r x y H Q->
  wpAny (model X.prog X.w) X.A (f v u) (EP X pins σ Q) X.xe s
def ZJ(X:Cx)(f:Value->Sem Value)(r:V->Hp->VK->Prop):Prop:=
 ∀(pins:bO) (s:Shared) (σ:St) (H:Hp) (x:V) (v:Value) (Q:VK),Inv X pins σ H s->RelV x v->r x H Q->
  wpAny (model X.prog X.w) X.A (f v) (EP X pins σ Q) X.xe s
def Es(X:Cx)(f:Value)(r:List V->Hp->VK->Prop):Prop:=
 ∀(pins:bO) (s:Shared) (σ:St) (H:Hp) (xs:List V) (us:List Value) (Q:VK),Inv X pins σ H s->Vals xs us->r xs H Q->
  wpAny (model X.prog X.w) X.A (call f us) (EP X pins σ Q) X.xe s
def ac7(X:Cx)(r:V->Hp->(Bool->Hp->Prop)->Prop):Prop:=
 ∀(pins:bO) (s:Shared) (σ:St) (H:Hp) (x:V) (v:Value) (Q:Bool->Hp->Prop),Inv X pins σ H s->RelV x v->r x H Q->
  wpAny (model X.prog X.w) X.A (truthy v) (TP X pins σ Q) X.xe s
def yN(r:R2)(Y U:TE):TE:=λσ H Q=>Y σ H λx H1=>U σ H1 λy T=>r x y T Q
def tUn(r:V->Hp->VK->Prop)(Y:TE):TE:=λσ H Q=>Y σ H λx H1=>r x H1 Q
def rI(C:Int->Int->Prop)(g:Int->Int->V):R2:=λx y H Q=>xg x λi=>xg y λj=>C i j/\Q (g i j) H
def sQ(g:Int->Int->V):R2:=λx y H Q=>xg x λi=>xg y λj=>Q (g i j) H
def rU(g:Int->V):V->Hp->VK->Prop:=λx H Q=>xg x λi=>Q (g i) H
section
variable{X:Cx}{a b c:Expr}{ta tb tc:TE}{pos:Pos}
theorem Yo(M:PE X a ta)(L:PE X b tb){pins:bO}{s:Shared}{σ:St}{H:Hp}{R:V->V->Hp->Prop}(I:Inv X pins σ H s)
  (h:ta σ H λx H1=>tb σ H1 λy U=>R x y U) {Q:b7} {f:Value->Value->Sem Value}
  (J:∀v u N x y U,Inv X pins σ U N->RelV x v->RelV y u->R x y U->wpAny (model X.prog X.w) X.A (f v u) Q X.xe N) :
  wpAny (model X.prog X.w) X.A (eval a X.env) (λv T=>wpAny (model X.prog X.w) X.A (eval b X.env) (λu O=>wpAny (model X.prog X.w) X.A (f v u) Q X.xe O) X.xe T) X.xe s:=by
 refine aZ (M pins s σ H _ I h) λv G Y=>?_;mleft;obtain⟨x,H1,E,D,C⟩:=Y;mright;refine aZ (L pins G σ H1 _ E C) λu N Y=>?_;mleft;obtain⟨y,U,B,z,r⟩:=Y;mright;exact J v u N x y U B D z r
theorem bh{Y:Operator}{r:R2}(U:iy X (binaryOp Y) r)(T:PE X a ta)(O:PE X b tb):PE X (.BinOp a Y b pos) (yN r ta tb):=by
 intro pins s σ H Q I h;exact wpAny_BinOp (Yo T O I h λv u N x y M L J G q=>U pins N σ M x y v u Q L J G q)
theorem uZ{Y:UnaryOp}{r:V->Hp->VK->Prop}(U:ZJ X (unaryOp Y) r)(T:PE X a ta):PE X (.UnaryOp Y a pos) (tUn r ta):=by
 intro pins s σ H Q I h;exact UnaryOp_ (aZ (T pins s σ H _ I h) λv O ⟨x,H1,N,M,L⟩=>U pins O σ H1 x v Q N M L)
theorem Wl{f:Value->Value->Sem Value}{C:Int->Int->Prop}{g:Int->Int->Int}
  (rule:∀(i j:Int) (t u:Tok) (s:Shared) (Q:b7) (E:b7),C i j->Q (.int (g i j) s.toks) { s with toks:=s.toks+1 }->wpAny (model X.prog X.w) X.A (f (.int i t) (.int j u)) Q E s) :
  iy X f (rI C λi j=>.int (g i j)):=by
 intro pins s σ H x y v u Q I Y U h;obtain⟨i,rfl,T⟩:=gC.mp h;mleft;obtain⟨j,rfl,O,q⟩:=gC.mp T;mright;obtain⟨t,rfl⟩:=Y;obtain⟨t',rfl⟩:=U;exact rule i j t t' s _ _ O ⟨.int (g i j),H,I.tok _,⟨_,rfl⟩,q⟩
theorem Kv{f:Value->Value->Sem Value}{g:Int->Int->Int}
  (rule:∀(i j:Int) (t u:Tok) (s:Shared) (Q:b7) (E:b7),Q (.int (g i j) s.toks) { s with toks:=s.toks+1 }->wpAny (model X.prog X.w) X.A (f (.int i t) (.int j u)) Q E s) :
  iy X f (sQ λi j=>.int (g i j)):=by
 intro pins s σ H x y v u Q I Y U h;obtain⟨i,rfl,T⟩:=gC.mp h;obtain⟨j,rfl,q⟩:=gC.mp T;obtain⟨t,rfl⟩:=Y;obtain⟨t',rfl⟩:=U;exact rule i j t t' s _ _ ⟨.int (g i j),H,I.tok _,⟨_,rfl⟩,q⟩
theorem UZ{f:Value->Value->Sem Value}{g:Int->Int->Bool}
  (rule:∀(i j:Int) (t u:Tok) (s:Shared) (Q:b7) (E:b7),Q (.bool (g i j)) s->wpAny (model X.prog X.w) X.A (f (.int i t) (.int j u)) Q E s) :
  iy X f (sQ λi j=>.bl (g i j)):=by
 intro pins s σ H x y v u Q I Y U h;obtain⟨i,rfl,T⟩:=gC.mp h;obtain⟨j,rfl,q⟩:=gC.mp T;obtain⟨t,rfl⟩:=Y;obtain⟨t',rfl⟩:=U;exact rule i j t t' s _ _ ⟨.bl (g i j),H,I,rfl,q⟩
def acR(i j:Int):Prop:=0<j/\j<1073741824
def XR(i j:Int):Prop:=(-(2 ^ 64)<i/\i<2 ^ 64)\/(-(2 ^ 64)<j/\j<2 ^ 64)
theorem XR.ok{i j:Int}(h:XR i j):IntMulOk i j:=by
 rcases h with⟨Y,U⟩|⟨Y,U⟩
 .exact .of_left (intBits_le_64 Y U)
 exact .of_right (intBits_le_64 Y U)
theorem Ta(k:Nat):(0:Int)<=2 ^ k:=by
 rw[two_pow_cast];exact Kw _
theorem dq:iy X (binaryOp .Add) (sQ λi j=>.int (i+j)):=Kv λ_ _ _ _ _ _ _ q=>add_int q
theorem yI:iy X (binaryOp .Sub) (sQ λi j=>.int (i - j)):=Kv λ_ _ _ _ _ _ _ q=>sub_int q
theorem Oc:iy X (binaryOp .Mult) (rI XR λi j=>.int (i*j)):=Wl λ_ _ _ _ _ _ _ Y q=>mul_int q Y.ok
theorem adj:iy X (binaryOp .FloorDiv) (rI acR λi j=>.int (i / j)):=Wl λi j _ _ _ _ _ Y q=>by
 have U:(0:Int)<j:=Y.1;have T:j<1073741824:=Y.2;exact floordiv_int ao (by rw[ZK i ao];exact q) (.inl (PyProof.noPylong_small ao))
theorem OB:iy X (binaryOp .Mod) (rI (λ_ j=>0<j) λi j=>.int (i % j)):=Wl λi j _ _ _ _ _ Y q=>by
 have U:(0:Int)<j:=Y;exact mod_int' ao (by rw[Int.fmod_eq_emod_of_nonneg i ao];exact q)
theorem aa5:iy X (binaryOp .RShift) (rI (λ_ j=>0<=j) λi j=>.int (i / 2 ^ j.toNat)):=Wl λi j _ _ _ _ _ Y q =>
 rshift_int Y (by rw[ZK i (Ta _)];exact q)
theorem vC:iy X (binaryOp .BitAnd) (sQ λi j=>.int (Builtin.bitAnd i j)):=Kv λ_ _ _ _ _ _ _ q=>and_int q
theorem Y0:iy X (binaryOp .BitOr) (sQ λi j=>.int (Builtin.bitOr i j)):=Kv λ_ _ _ _ _ _ _ q=>or_int q
theorem Se:iy X (inplaceOp .Add) (sQ λi j=>.int (i+j)):=Kv λ_ _ _ _ _ _ _ q=>iadd_int q
theorem Wz:iy X (inplaceOp .BitOr) (sQ λi j=>.int (Builtin.bitOr i j)):=Kv λ_ _ _ _ _ _ _ q=>ior_int q
theorem unI{f:Value->Sem Value}{g:Int->Int}
  (rule:∀(i:Int) (t:Tok) (s:Shared) (Q:b7) (E:b7),Q (.int (g i) s.toks) { s with toks:=s.toks+1 }->wpAny (model X.prog X.w) X.A (f (.int i t)) Q E s) :
  ZJ X f (rU λi=>.int (g i)):=by
 intro pins s σ H x v Q I Y h;obtain⟨i,rfl,q⟩:=gC.mp h;obtain⟨t,rfl⟩:=Y;exact rule i t s _ _ ⟨.int (g i),H,I.tok _,⟨_,rfl⟩,q⟩
theorem sW:ZJ X (unaryOp .USub) (rU λi=>.int (-i)):=unI λ_ _ _ _ _ q=>neg_int q
theorem abb:ZJ X (unaryOp .Invert) (rU λi=>.int (Builtin.bitNot i)):=unI λ_ _ _ _ _ q=>invert_int q
end
def XN:V->V->Bool
 |.aX,.aX=>true|.aX,.int _=>true|.int _,.aX=>true|.aX,.bl _=>true|.bl _,.aX=>true|.aX,.str _=>true|.str _,.aX=>true
 |.int _,.int _=>true|.bl _,.bl _=>true|.str _,.str _=>true|.qR _,.qR _=>true
 |.int _,.str _=>true|.str _,.int _=>true|.bl _,.str _=>true|.str _,.bl _=>true
 |_,_=>false
def rEq:R2:=λx y H Q=>XN x y=true/\Q (.bl (decide (x=y))) H
def rNe:R2:=λx y H Q=>XN x y=true/\Q (.bl (!decide (x=y))) H
theorem Sh{i j:Int}:decide (V.int i=V.int j)=(i==j):=by
 rw[lU];simp
theorem VY{i j:Bool}:decide (V.bl i=V.bl j)=(i==j):=by
 rw[lU];simp
theorem RN{i j:Str}:decide (V.str i=V.str j)=(i==j):=by
 rw[lU];simp
theorem SI{i j:Array UInt8}:decide (V.qR i=V.qR j)=(i.toList==j.toList):=by
 rw[lU];cases i;cases j;simp
section
variable{X:Cx}{a b c:Expr}{ta tb tc:TE}{pos:Pos}
theorem cJ{pins:bO}{σ:St}{H:Hp}{s:Shared}{Q:VK}{k Y:Bool}(I:Inv X pins σ H s)(q:Q (.bl k) H)(e:k=Y):EP X pins σ Q (.bool Y) s:=by
 subst e;exact⟨.bl k,H,I,rfl,q⟩
theorem fq:iy X (compareOp .Eq) rEq:=by
 intro pins s σ H x y v u Q I T Y h;obtain⟨U,q⟩:=h;cases x with
 |aX =>
  cases T;cases y with
  |aX=>cases Y;exact PySem.EqNone.eq_none_none (cJ I q aP)
  |bl j=>cases Y;exact PySem.EqNone.eq_none_bool (cJ I q aP)
  |int j=>obtain⟨t',rfl⟩:=Y;exact PySem.EqNone.eq_none_int (cJ I q aP)
  |str j=>obtain⟨t',rfl⟩:=Y;exact PySem.EqNone.eq_none_str (cJ I q aP)
  |_=>exact absurd (show false=true from U) f9
 |bl i =>
  cases T;cases y with
  |aX=>cases Y;exact PySem.EqNone.eq_bool_none (cJ I q aP)
  |bl j=>cases Y;exact eq_bool (cJ I q VY)
  |str j=>obtain⟨t',rfl⟩:=Y;exact PySem.EqMixed.eq_bool_str (cJ I q aP)
  |_=>exact absurd (show false=true from U) f9
 |int i =>
  obtain⟨t,rfl⟩:=T;cases y with
  |aX=>cases Y;exact PySem.EqNone.eq_int_none (cJ I q aP)
  |int j=>obtain⟨t',rfl⟩:=Y;exact eq_int (cJ I q Sh)
  |str j=>obtain⟨t',rfl⟩:=Y;exact PySem.EqMixed.eq_int_str (cJ I q aP)
  |_=>exact absurd (show false=true from U) f9
 |str i =>
  obtain⟨t,rfl⟩:=T;cases y with
  |aX=>cases Y;exact PySem.EqNone.eq_str_none (cJ I q aP)
  |bl j=>cases Y;exact PySem.EqMixed.eq_str_bool (cJ I q aP)
  |int j=>obtain⟨t',rfl⟩:=Y;exact PySem.EqMixed.eq_str_int (cJ I q aP)
  |str j=>obtain⟨t',rfl⟩:=Y;exact eq_str (cJ I q RN)
  |_=>exact absurd (show false=true from U) f9
 |qR i =>
  obtain⟨t,rfl⟩:=T;cases y with
  |qR j=>obtain⟨t',rfl⟩:=Y;exact W.eq_bytes (cJ I q SI)
  |_=>exact absurd (show false=true from U) f9
 |_=>cases y<;>exact absurd (show false=true from U) f9
theorem Zx:iy X (compareOp .NotEq) rNe:=by
 intro pins s σ H x y v u Q I T Y h;obtain⟨U,q⟩:=h;cases x with
 |aX =>
  cases T;cases y with
  |aX=>cases Y;exact PySem.EqNone.ne_none_none (cJ I q aP)
  |bl j=>cases Y;exact PySem.EqNone.ne_none_bool (cJ I q aP)
  |int j=>obtain⟨t',rfl⟩:=Y;exact PySem.EqNone.ne_none_int (cJ I q aP)
  |str j=>obtain⟨t',rfl⟩:=Y;exact PySem.EqNone.ne_none_str (cJ I q aP)
  |_=>exact absurd (show false=true from U) f9
 |bl i =>
  cases T;cases y with
  |aX=>cases Y;exact PySem.EqNone.ne_bool_none (cJ I q aP)
  |bl j=>cases Y;exact ne_bool (cJ I q (mR not VY))
  |str j=>obtain⟨t',rfl⟩:=Y;exact PySem.EqMixed.ne_bool_str (cJ I q aP)
  |_=>exact absurd (show false=true from U) f9
 |int i =>
  obtain⟨t,rfl⟩:=T;cases y with
  |aX=>cases Y;exact PySem.EqNone.ne_int_none (cJ I q aP)
  |int j=>obtain⟨t',rfl⟩:=Y;exact ne_int (cJ I q (mR not Sh))
  |str j=>obtain⟨t',rfl⟩:=Y;exact PySem.EqMixed.ne_int_str (cJ I q aP)
  |_=>exact absurd (show false=true from U) f9
 |str i =>
  obtain⟨t,rfl⟩:=T;cases y with
  |aX=>cases Y;exact PySem.EqNone.ne_str_none (cJ I q aP)
  |bl j=>cases Y;exact PySem.EqMixed.ne_str_bool (cJ I q aP)
  |int j=>obtain⟨t',rfl⟩:=Y;exact PySem.EqMixed.ne_str_int (cJ I q aP)
  |str j=>obtain⟨t',rfl⟩:=Y;exact ne_str (cJ I q (mR not RN))
  |_=>exact absurd (show false=true from U) f9
 |qR i =>
  obtain⟨t,rfl⟩:=T;cases y with
  |qR j=>obtain⟨t',rfl⟩:=Y;exact W.ne_bytes (cJ I q (mR not SI))
  |_=>exact absurd (show false=true from U) f9
 |_=>cases y<;>exact absurd (show false=true from U) f9
theorem qw:iy X (compareOp .Lt) (sQ λi j=>.bl (decide (i<j))):=UZ λ_ _ _ _ _ _ _ q=>lt_int q
theorem SU:iy X (compareOp .LtE) (sQ λi j=>.bl (decide (i<=j))):=UZ λ_ _ _ _ _ _ _ q=>le_int q
theorem iY:iy X (compareOp .Gt) (sQ λi j=>.bl (decide (j<i))):=UZ λ_ _ _ _ _ _ _ q=>gt_int q
theorem Nz:iy X (compareOp .GtE) (sQ λi j=>.bl (decide (j<=i))):=UZ λ_ _ _ _ _ _ _ q=>ge_int q
theorem Hq:iy X (compareOp .Is) (λx y H Q=>y=.aX/\Q (.bl (decide (x=.aX))) H):=by
 intro pins s σ H x y v u Q I Y U h;obtain⟨rfl,q⟩:=h;cases U;refine is_none_gen (cJ I q ?_);cases x<;>first
  |(cases Y;rfl)
  |(obtain⟨t,rfl⟩:=Y;rfl)
theorem EK:iy X (compareOp .IsNot) (λx y H Q=>y=.aX/\Q (.bl (!decide (x=.aX))) H):=by
 intro pins s σ H x y v u Q I Y U h;obtain⟨rfl,q⟩:=h;cases U;refine isnot_none_gen (cJ I q ?_);cases x<;>first
  |(cases Y;rfl)
  |(obtain⟨t,rfl⟩:=Y;rfl)
theorem aR(b:Expr){Y:CmpOp}(h:Y≠.In:=by decide)(U:Y≠.NotIn:=by decide):behindInMarks Y b=false:=by
 have T:(Y==CmpOp.In)=false:=by cases Y<;>first|rfl|exact absurd rfl h
 have Q:(Y==CmpOp.NotIn)=false:=by cases Y<;>first|rfl|exact absurd rfl U
 cases b<;>simp[behindInMarks,T,Q]
theorem eM{Y:CmpOp}{r:R2}(U:iy X (compareOp Y) r)(T:PE X a ta)(O:PE X b tb)(N:behindInMarks Y b=false):PE X (.Compare a [Y] [b] pos) (yN r ta tb):=by
 intro pins s σ H Q I h;exact wpAny_Compare1 (Yo T O I h λv u M x y L J G E q=>U pins M σ L x y v u Q J G E q) N
def T1(t:TE):TT:=λσ H Q=>t σ H λx Y=>LI x λk=>Q k Y
theorem aW{Y:CmpOp}{r:R2}(U:iy X (compareOp Y) r)(T:PE X a ta)(O:PE X b tb)(N:behindInMarks Y b=false):PT X (.Compare a [Y] [b] pos) (T1 (yN r ta tb)):=by
 intro pins s σ H Q I h;refine wpAny_isTrue_Compare1 (aZ (T pins s σ H _ I h) λv M ⟨x,H1,L,J,G⟩=>aZ (O pins M σ H1 _ L G) λu E ⟨y,D,C,B,A⟩ =>
  aZ (U pins E σ D x y v u _ C J B A) λc l ⟨z,q,p,o,n⟩=>?_) N
 obtain⟨k,e,m⟩:=EF.mp n;subst e;cases o;exact EX ⟨q,p,m⟩
def Yh(K:W.Frag)(x:V)(H:Hp)(k:Bool):Prop:=
 match x with
 |.aX=>k=false
 |.bl b=>k=b
 |.int i=>k=(i != 0)
 |.str y=>y.length<=sizeLine/\k=((y.length:Int) != 0)
 |.qR y=>y.size<=sizeLine/\k=((y.size:Int) != 0)
 |.ref p=>(∃xs,dn K H p xs/\k=!xs.isEmpty)\/(∃xs,uN K H p xs/\k=!xs.isEmpty)\/∃Y,H p=some (.dK Y)/\k=!Y.isEmpty
 |_=>False
theorem UB{κ:Type}{Y:List (κ×V)}{vs:List (κ×Value)}(r:KV Y vs):(!vs.isEmpty)=!Y.isEmpty:=by
 cases r<;>rfl
theorem Hs{xs:List V}{Y:List Value}(r:Vals xs Y):(!Y.toArray.isEmpty)=!xs.isEmpty:=by
 cases r<;>simp
theorem y4:(sizeLine:Nat)<2 ^ 63:=by rw[IS];decide
theorem aa8:ac7 X (λx H Q=>∃k,Yh X.K x H k/\Q k H):=by
 intro pins s σ H x v Q I O h;obtain⟨k,e,q⟩:=h;have G:=y4;have E:sizeLine=16777216:=IS;cases x with
 |aX =>
  cases O;have Y:k=false:=e;subst Y;exact truthy_none ⟨H,I,q⟩
 |bl b =>
  cases O;have Y:k=b:=e;subst Y;exact EX ⟨H,I,q⟩
 |int i =>
  obtain⟨t,rfl⟩:=O;have Y:k=(i != 0):=e;subst Y;exact PySem.P.truthy_int ⟨H,I,q⟩
 |str y =>
  obtain⟨t,rfl⟩:=O;obtain⟨L,Y⟩:y.length<=sizeLine/\k=((y.length:Int) != 0):=e;subst Y;exact PySem.P.truthy_str ao ⟨H,I.tok _,q⟩
 |qR y =>
  obtain⟨t,rfl⟩:=O;obtain⟨L,Y⟩:y.size<=sizeLine/\k=((y.size:Int) != 0):=e;subst Y;exact W.truthy_bytes ao ⟨H,I.tok _,q⟩
 |ref p =>
  cases O;have Y:(∃xs,dn X.K H p xs/\k=!xs.isEmpty)\/(∃xs,uN X.K H p xs/\k=!xs.isEmpty)\/∃U,H p=some (.dK U)/\k=!U.isEmpty:=e;rcases Y with⟨xs,N,Y⟩|⟨xs,N,Y⟩|⟨U,N,Y⟩
  .subst Y;mleft;obtain⟨M,r,pl,hz⟩:=I.list N;mright;have T:=r.length;exact wpAny_truthy_list pl.isList (by simp only[eu];lia) ⟨H,I.tok _,by rw[Hs r];exact q⟩
  .subst Y;mleft;obtain⟨M,r,pl,hz⟩:=I.tuple N;mright;have T:=r.length;exact truthy_tuple pl (by simp only[eu];lia) ⟨H,I.tok _,by rw[Hs r];exact q⟩
  subst Y;obtain⟨hz,J,vs,r,m⟩:U.length<=sizeLine/\(p==sysModules)=false/\∃vs,KV U vs/\s.heap.DictOf (cX X.prog X.w) p vs:=I.aQ p _ N;have T:U.length=vs.length:=mO r;exact wpAny_truthy_dict J m ao ⟨H,I.tok _,by rw[UB r];exact q⟩
 |_=>exact(show False from e).elim
theorem fS(T:PE X a ta)(O:∀Y,isTrue a X.env Y=(do let v <-Y;standAt a.pos;holding [v] (truthy v))) :
  PT X a (λσ H Q=>ta σ H λx U=>∃k,Yh X.K x U k/\Q k U):=by
 intro pins s σ H Q I h;exact isTrue_plain (aZ (T pins s σ H _ I h) λv N ⟨x,H1,M,L,J⟩=>aa8 pins N σ H1 x v Q M L J) (O _)
theorem vals1{x:V}{us:List Value}(r:Vals [x] us):∃u,us=[u]/\RelV x u:=by
 cases r with
 |cons Y U=>cases U;exact⟨_,rfl,Y⟩
end
end
section
structure He(h:Heap)(x dx C:Addr)(mA:Str->Option Value):Prop where
 obj:h.get? x=some (W.instObj C dx)
 ns:h.Ns1 dx mA
 ne:dx≠x
theorem Wr{h:Heap}{U:Addr}{T:Str->Option Value}(n:h.Ns1 U T):∃Q,h.get? U=some Q/\∀name,W.lookIn name Q=some (T name):=by
 mleft;obtain⟨o,O,H,N,hd,M,_,L⟩:=n;mright;refine⟨o,N,λname=>?_⟩;have e:=L name;unfold nsFind findBy at e;rw[<-Array.find?_toList]at e;unfold W.lookIn;rw[hd];dsimp only;split
 .rename_i y q;rw[q]at e;exact mR some e
 rename_i q;rw[q]at e;have a:O.toList.any (·.refKey)=false:=by
  rw[List.any_eq_false];intro y J;obtain⟨z,t,Y⟩:=M y (Array.mem_toList_iff.mp J);simp[DictEntry.refKey,Y]
 have I:¬O.toList.any (·.refKey)=true:=by rw[a];exact f9
 rw[ae I];exact mR some e
theorem He.look{h:Heap}{x U C:Addr}{T:Str->Option Value}(I:He h x U C T):∃Y,W.InstAt h x (W.instObj C U) C (some Y)/\∀name,W.lookIn name Y=some (T name):=
 let ⟨Y,Q,O⟩:=Wr I.ns
 ⟨Y,⟨I.obj,rfl,rfl,Q⟩,O⟩
section
variable{prog:Program}{w:World}{A:Around}{E:b7}{s:Shared}{K:W.Frag}{x dx C f:Addr}{mA:Str->Option Value}{name:Str}{v:Value}
theorem get_map{Y:Bool}{Q:b7}(X:K.In s.heap)(I:He s.heap x dx C mA)(T:W.plainGet K C name=true)(O:W.hasDictIn K C=true)
  (N:W.findIn K (.ref C) name=some none) (M:mA name=some v) (U:W.handedIn v=true) (h:Q v { s with toks:=s.toks+1 }) :
  wpAny (model prog w) A (getAttr (.ref x) name Y) Q E s:=by
 obtain⟨H,J,L⟩:=I.look;exact W.get_value X J (Tu T).1 (W.findObj_own O N rfl (by rw[L,M])) U h
theorem Xs{pl:Sem Bool}{Q:Value×List Value->Shared->Prop}(X:K.In s.heap)(I:He s.heap x dx C mA)(Y:W.plainGet K C name=true)
  (U:W.findIn K (.ref C) name=some (some (.ref f))) (T:W.isFn K (.ref f)=true) (O:mA name=none) (h:Q (.ref f,[.ref x]) s) :
  wpAny (model prog w) A (getMethod (.ref x) name pl) Q E s:=by
 obtain⟨N,J,M⟩:=I.look;exact W.method_fn X J (Tu Y).1 (Tu Y).2 U (beq_iff_eq.mp T) (by show(W.lookIn name N).map (·.isSome)=some false;rw[M,O];rfl) h
theorem aaj{ns:List Str}{Q:Unit->Shared->Prop}(X:K.In s.heap)(I:He s.heap x dx C mA)
  (L:W.findIn K (.ref C) "__setattr__"=some (some (.builtin "object.__setattr__"))) (H:W.plainOver K C=true) (G:W.takerIn K C name=some none) (D:W.hasDictIn K C=true)
  (B:PySem.Within mA ns) (hsz:ns.length<=sizeLine)
  (h:∀h',He h' x dx C (λy=>if y=name then some v else mA y)->Heap.SameBut dx s.heap h'->Q () { s with heap:=h',toks:=s.toks+2 }) :
  wpAny (model prog w) A (setAttr (.ref x) name v) Q E s:=by
 obtain⟨o,J,n⟩:=I.look;refine W.set_plain X J L (W.osa_open (s:={ s with toks:=s.toks+1 }) (r:=none) X J H G λb=>?_)
 obtain⟨m,z,T⟩:=W.any_some D;have u:s.heap.get? x=some ⟨.ref C,some dx,.plain,#[]⟩:=I.obj;refine aA (bf (aA (aA (wpAny_loadPart u (aA (W.Looks.here (s:={ s with toks:=s.toks+1 }) (W.looks_clsIn X z) ?_))))))
 rw[T];refine bf (a:=some dx) (aA (bf (aA ?_)));refine wpAny_nsSet1 (s:={ s with toks:=s.toks+1 }) I.ns λh' Y U=>?_
 mleft;obtain⟨l,q,p,O,N,M⟩:=Y.count (PySem.Within.cons name v B);mright;refine aA (wpAny_lookBehind O (by rw[N];exact pastItsLine_dict (bT M (by rw[cT];lia))) ?_)
 exact bf (h _ ⟨(U.2 _ (bq I.ne)).trans I.obj,Y,I.ne⟩ U)
theorem Yr{R:Result->Shared->Prop}{vs:List Value}{U:List (Str×Value)}(X:K.In s.heap)(T:W.makesIn K C=true)
  (Q:W.findIn K (.ref C) "__init__"=some (some (.ref f))) (O:W.typeIn K (.ref f)=some (.type "function"))
  (h:codeAny (model prog w) (A.under (.builtin "type.__call__" ⟨.ref C::vs,U⟩)) (.call (.ref f) ⟨.ref (s.heap.objs.size+1)::vs,U⟩) (W.InitBack (s.heap.objs.size+1) R)
   { s with heap:=(s.heap.push W.emptyDict).push (W.instObj C s.heap.objs.size) }) :
  codeAny (model prog w) A (.call (.ref C) ⟨vs,U⟩) R s:=by
 mleft;obtain⟨N,g,d,t,os⟩:=s;mright;exact W.make_core (W.makes_of X T) (W.looks_findIn X Q) (λY=>W.bind_fn X Y O) (.inl rfl) h
end
def jv(f:Str)(v:V):List (Str×V)->List (Str×V)
 |[]=>[(f,v)]
 |(g,x)::r=>if g=f then(g,v)::r else(g,x)::jv f v r
theorem E7(f g:Str)(v:V):∀fs:List (Str×V),(jv f v fs).lookup g=if g=f then some v else fs.lookup g
 |[]=>by
  show List.lookup g [(f,v)]=_;by_cases h:g=f
  .have Y:(g==f)=true:=beq_iff_eq.mpr h;simp only[List.lookup,Y,ag h]
  have Y:(g==f)=false:=beq_eq_false_iff_ne.mpr h;simp only[List.lookup,Y,ae h]
 |(k,x)::r=>by
  have T:=E7 f g v r;rw[show jv f v ((k,x)::r)=(if k=f then(k,v)::r else(k,x)::jv f v r)from rfl]
  by_cases U:k=f
  .rw[ag U];by_cases h:g=k
   .have Y:(g==k)=true:=beq_iff_eq.mpr h;simp only[List.lookup,Y,ag (h.trans U)]
   have Y:(g==k)=false:=beq_eq_false_iff_ne.mpr h;simp only[List.lookup,Y,ae (λe:g=f=>h (e.trans U.symm))]
  rw[ae U];by_cases h:g=k
  .have Y:(g==k)=true:=beq_iff_eq.mpr h;simp only[List.lookup,Y,ae (λe:g=f=>U (h.symm.trans e))]
  have Y:(g==k)=false:=beq_eq_false_iff_ne.mpr h;simp only[List.lookup,Y];exact T
theorem CK(f:Str)(v:V):∀fs:List (Str×V),f∈(jv f v fs).map (·.1)/\∀g,g∈fs.map (·.1)->g∈(jv f v fs).map (·.1)
 |[]=>⟨by simp[jv],λg h=>by simp at h⟩
 |(k,x)::r=>by
  obtain⟨U,T⟩:=CK f v r;rw[show jv f v ((k,x)::r)=(if k=f then(k,v)::r else(k,x)::jv f v r)from rfl]
  by_cases Y:k=f
  .rw[ag Y];subst Y;exact⟨by simp,λg h=>by simpa using h⟩
  rw[ae Y];refine⟨?_,λg h=>?_⟩
  .rw[bM];exact cF _ U
  rw[bM]at h ⊢;rcases b0.mp h with e|e
  .exact b0.mpr (.inl e)
  exact cF _ (T g e)
theorem FH(f:Str)(v:V):∀fs:List (Str×V),(jv f v fs).length<=fs.length+1
 |[]=>by simp[jv]
 |(k,x)::r=>by
  have U:=FH f v r;rw[show jv f v ((k,x)::r)=(if k=f then(k,v)::r else(k,x)::jv f v r)from rfl]
  by_cases Y:k=f
  .rw[ag Y,cT,cT];lia
  rw[ae Y,cT,cT];lia
theorem mD.some_of{v:V}{o:Option Value}(r:mD (some v) o):∃u,o=some u/\RelV v u:=by
 cases o with
 |none=>exact(show False from r).elim
 |some u=>exact⟨u,rfl,r⟩
theorem mD.none_of{o:Option Value}(r:mD none o):o=none:=by
 cases o with
 |none=>rfl
 |some u=>exact(show False from r).elim
theorem Mh{v:V}{u:Value}(r:RelV v u):W.handedIn u=true:=by
 cases v with
 |aX=>cases(show u=Value.none from r);rfl
 |bl b=>cases(show u=Value.bool b from r);rfl
 |int i=>obtain⟨t,e⟩:=(show ∃t,u=Value.int i t from r);cases e;rfl
 |str x=>obtain⟨t,e⟩:=(show ∃t,u=Value.str x t from r);cases e;rfl
 |qR b=>obtain⟨t,e⟩:=(show ∃t,u=Value.bytes b t from r);cases e;rfl
 |Zj b=>obtain⟨t,e⟩:=(show ∃t,u=Value.float b t from r);cases e;rfl
 |ref a=>cases(show u=Value.ref a from r);rfl
 |ty n=>cases(show u=Value.type n from r);rfl
section
variable{P:Program}{w:World}{H H':Hp}{h h':Heap}{a C dx:Addr}{fs fs':List (Str×V)}
theorem Kr(aQ:fH P w H h)(e:H a=some (.ins C dx fs)):∃Y,He h a dx C Y/\(∀f,mD (fs.lookup f) (Y f))/\PySem.Within Y (fs.map (·.1))/\fs.length<=1000/\H dx=some (.own a):=by
 mleft;obtain⟨d,z,U,T,Y,n,r,q⟩:=(show dH P w H h a (.ins C dx fs)from aQ a _ e);mright;exact⟨Y,⟨T,n,U⟩,r,q,z,d⟩
end
structure j9(K:W.Frag)(C:Addr):Prop where
 pg:W.plainGet K C Str.empty=true
 hd:W.hasDictIn K C=true
 po:W.plainOver K C=true
 sa:W.findIn K (.ref C) "__setattr__"=some (some (.builtin "object.__setattr__"))
theorem j9.get{K:W.Frag}{C:Addr}(c:j9 K C)(f:Str):W.plainGet K C f=true:=c.pg
def bC(K:W.Frag)(C:Addr)(f:Str):Prop:=W.findIn K (.ref C) f=some none
theorem bC.ab2{K:W.Frag}{C:Addr}{f:Str}(n:bC K C f):W.takerIn K C f=some none:=by
 unfold W.takerIn;rw[show W.findIn K (.ref C) f=some none from n];rfl
structure Meth(K:W.Frag)(C:Addr)(m:Str)(f:Addr):Prop where
 at_:W.findIn K (.ref C) m=some (some (.ref f))
 fn:W.isFn K (.ref f)=true
 kp:W.keepIn K (.ref f)=true
section
variable{X:Cx}{pins:bO}{σ:St}{H:Hp}{s:Shared}{a C dx:Addr}{fs:List (Str×V)}{f:Str}{v:V}{A:Around}{E:b7}
theorem u0{b:Bool}{Q:b7}(I:Inv X pins σ H s)(e:H a=some (.ins C dx fs))(c:j9 X.K C)(n:bC X.K C f)(l:fs.lookup f=some v)
  (h:∀u Y,Inv X pins σ H Y->RelV v u->Q u Y):wpAny (model X.prog X.w) A (getAttr (.ref a) f b) Q E s:=by
 mleft;obtain⟨T,O,r,_,_,_⟩:=Kr I.aQ e;mright;obtain⟨u,N,U⟩:=mD.some_of (v:=v) (o:=T f) (by rw[<-l];exact r f)
 exact get_map I.gT O (c.get f) c.hd n N (Mh U) (h u _ (I.tok _) U)
theorem z9{m:Str}{g:Addr}{pl:Sem Bool}{Q:Value×List Value->Shared->Prop}(I:Inv X pins σ H s)(e:H a=some (.ins C dx fs))(c:j9 X.K C)(k:Meth X.K C m g)(l:fs.lookup m=none)
  (h:Q (.ref g,[.ref a]) s):wpAny (model X.prog X.w) A (getMethod (.ref a) m pl) Q E s:=by
 mleft;obtain⟨Y,O,r,_,_,_⟩:=Kr I.aQ e;mright;have U:Y m=none:=mD.none_of (by rw[<-l];exact r m)
 exact Xs I.gT O (c.get m) k.at_ k.fn U h
theorem uW{y:V}{u:Value}{Q:Unit->Shared->Prop}(I:Inv X pins σ H s)(e:H a=some (.ins C dx fs))(c:j9 X.K C)(n:bC X.K C f)(v:fs.length<1000)(L:RelV y u)
  (h:∀U,Inv X pins σ (upd H a (.ins C dx (jv f y fs))) U->Q () U):wpAny (model X.prog X.w) A (setAttr (.ref a) f u) Q E s:=by
 mleft;obtain⟨T,O,r,N,_,M⟩:=Kr I.aQ e;mright;have hz:(fs.map (·.1)).length<=sizeLine:=by rw[bG,IS];lia
 refine aaj I.gT O c.sa c.po n.ab2 c.hd N hz λh' Y J=>h _ ?_;have hd:∃o,h'.get? dx=some o:=let ⟨o,_,_,G,_⟩:=Y.ns;⟨o,G⟩
 refine I.write (x:=a) (e:=dx) (by rw[e];exact True.intro) (.inr M) (λb q D z=>(J.2 b D).trans z) hd ?_
 refine⟨by rw[aj O.ne];exact M,?_,O.ne,Y.obj,_,Y.ns,λg=>?_,λg B=>?_⟩
 .have:=FH f y fs;lia
 .show mD ((jv f y fs).lookup g) (if g=f then some u else T g)
  rw[E7];by_cases q:g=f
  .rw[ag q,ag q];exact L
  rw[ae q,ae q];exact r g
 by_cases q:g=f
 .rw[q];exact(CK f y fs).1
 refine(CK f y fs).2 g (N g λz=>B ?_);show(if g=f then some u else T g)=none
 rw[ae q];exact z
theorem Inv.made(I:Inv X pins σ H s):Inv X pins σ (upd (upd H s.heap.objs.size (.own (s.heap.objs.size+1))) (s.heap.objs.size+1) (.ins C s.heap.objs.size []))
  { s with heap:=(s.heap.push W.emptyDict).push (W.instObj C s.heap.objs.size) }:=by
 have Y:(s.heap.push W.emptyDict).get? s.heap.objs.size=some W.emptyDict:=eR s.heap rfl;have T:((s.heap.push W.emptyDict).push (W.instObj C s.heap.objs.size)).get? (s.heap.objs.size+1)=some (W.instObj C s.heap.objs.size):=by
  have:=eR (s.heap.push W.emptyDict) (o:=W.instObj C s.heap.objs.size) rfl;rwa[lJ]at this
 have Q:(s.heap.push W.emptyDict).Ns s.heap.objs.size (λ_=>none):=⟨W.emptyDict,#[],_,Y,rfl,(λe O=>absurd O aP),λ_=>rfl⟩;have N:=I.laid (a:=s.heap.objs.size) (o:=.own (s.heap.objs.size+1)) (h':=s.heap.push W.emptyDict) (t':=s.toks) (λb u q=>cA _ q) (bD _) ⟨_,Y⟩;refine N.laid (a:=s.heap.objs.size+1) (o:=.ins C s.heap.objs.size []) (t':=s.toks) (λb u q=>cA _ q) (yA (lJ _ _)) ?_;have U:s.heap.objs.size≠s.heap.objs.size+1:=fZ (Nd _);refine⟨by rw[aj U,af],dy _,U,T,λ_=>none,(Heap.Ns1.of_empty Q).at λo q=>cA _ q,λ_=>True.intro,λy M=>absurd rfl M⟩
theorem KU{prog:Program}{w:World}{Y:Env}{e:Expr}{f:Str}{T:Pos}{s:Shared}{Q:b7}(O:attributeBase e f Y (eval e Y)=eval e Y)
  (h:wpAny (model prog w) A (eval e Y) (λo U=>wpAny (model prog w) A (getAttr o f true) Q E U) E s):wpAny (model prog w) A (eval (.Attribute e f T) Y) Q E s:=
 Attribute_any_ h (by rw[arm_eval_Attribute,O])
end
def acN(K:W.Frag)(Y:TE)(f:Str):TE:=λσ H Q=>Y σ H λx H1=>∃a C U fs v,x=.ref a/\H1 a=some (.ins C U fs)/\j9 K C/\bC K C f/\fs.lookup f=some v/\Q v H1
def acQ(K:W.Frag)(T Q:TE)(f:Str):TS:=λD σ H=>Q σ H λy H1=>T σ H1 λx Y=>∃a C U fs,x=.ref a/\Y a=some (.ins C U fs)/\j9 K C/\bC K C f/\fs.length<1000/\
 D.nx σ (upd Y a (.ins C U (jv f y fs)))
def Tv(X:Cx)(Y:Operator)(U:V->V->Hp->VK->Prop):Prop:=
 ∀(pins:bO) (s:Shared) (σ:St) (H:Hp) (x y:V) (u v:Value) (Q:VK),Inv X pins σ H s->RelV x u->RelV y v->U x y H Q->wpAny (model X.prog X.w) X.A (inplaceOp Y u v) (EP X pins σ Q) X.xe s
def aar(K:W.Frag)(Q O:TE)(N:V->V->Hp->VK->Prop)(f:Str):TS:=λD σ H=>Q σ H λx H1=>∃a C M fs v,x=.ref a/\H1 a=some (.ins C M fs)/\j9 K C/\bC K C f/\fs.lookup f=some v/\
 O σ H1 λy L=>N v y L λz T=>∃U Y,T a=some (.ins C U Y)/\Y.length<1000/\D.nx σ (upd T a (.ins C U (jv f z Y)))
section
variable{X:Cx}{o e value:Expr}{f:Str}{pos pos' tpos:Pos}{ta tv:TE}
theorem vY(U:PE X e ta)(T:attributeBase e f X.env (eval e X.env)=eval e X.env):PE X (.Attribute e f pos) (acN X.K ta f):=by
 intro pins s σ H Q I h;refine KU T (aZ (U pins s σ H _ I h) λu E Y=>?_);mleft;obtain⟨x,H1,O,N,a,C,D,fs,v,M,L,c,n,l,q⟩:=Y;mright;subst M;obtain rfl:u=Value.ref a:=N;exact u0 O L c n l λB A J G=>⟨v,H1,J,G,q⟩
theorem fo(U:PE X o ta)(T:PE X value tv)(Q:swapsWith value (some (.Attribute o f pos')) pos.line X.env=pure false):PS X (.Assign [.Attribute o f pos'] value pos) (acQ X.K ta tv f):=by
 intro pins s σ H D I h;refine S3 (aZ (T pins s σ H _ I h) λu O ⟨y,H1,N,M,q⟩=>aZ (U pins O σ H1 _ N q) λL v Y=>?_) Q;mleft;obtain⟨x,r,J,G,a,C,p,fs,E,B,c,n,l,A⟩:=Y;mright;subst E;obtain rfl:L=Value.ref a:=G;exact uW J B c n l M λm z=>⟨σ,_,z,A⟩
theorem L7{Q:Operator}{O:V->V->Hp->VK->Prop}(N:PE X o ta)(M:PE X value tv)(U:Tv X Q O):PS X (.AugAssign (.Attribute o f tpos) Q value pos) (aar X.K ta tv O f):=by
 intro pins s σ H D I h;refine wpAny_AugAssign_AttributeAny (aZ (N pins s σ H _ I h) λL s1 Y=>?_);mleft;obtain⟨x,H1,J,G,a,C,dx,fs,v,E,B,c,n,l,q⟩:=Y;mright;subst E;obtain rfl:L=Value.ref a:=G;refine u0 J B c n l λu A r p=>aZ (M pins A σ H1 _ r q) λm j ⟨y,i,g,e,d⟩=>aZ (U pins j σ i v y u m _ g p e d) λw4 s4 Y=>?_;mleft;obtain⟨z,H3,b,rz,ab,al,T,l',q4⟩:=Y;mright;exact uW b T c n l' rz λs5 I5=>⟨σ,_,I5,q4⟩
def abq:V->V->Hp->VK->Prop:=λx y H Q=>xg x λi=>xg y λj=>Q (.int (i+j)) H
def aa6:V->V->Hp->VK->Prop:=λx y H Q=>xg x λi=>xg y λj=>Q (.int (i - j)) H
theorem HR:Tv X .Add abq:=by
 rintro pins s σ H x y u v Q I Y U h;obtain⟨i,rfl,T⟩:=gC.mp h;obtain⟨j,rfl,q⟩:=gC.mp T;obtain⟨t,rfl⟩:=(show ∃t,u=Value.int i t from Y);obtain⟨t',rfl⟩:=(show ∃t',v=Value.int j t' from U);exact PyProof.Rows.iadd_int ⟨.int (i+j),H,I.tok _,⟨_,rfl⟩,q⟩
theorem Vq:Tv X .Sub aa6:=by
 rintro pins s σ H x y u v Q I Y U h;obtain⟨i,rfl,T⟩:=gC.mp h;obtain⟨j,rfl,q⟩:=gC.mp T;obtain⟨t,rfl⟩:=(show ∃t,u=Value.int i t from Y);obtain⟨t',rfl⟩:=(show ∃t',v=Value.int j t' from U);exact PyProof.Rows.isub_int ⟨.int (i - j),H,I.tok _,⟨_,rfl⟩,q⟩
theorem abZ{pl:Sem Bool}{m:Str}{U:Pos}{Y:List Expr}{pins:bO}{s:Shared}{σ:St}{H:Hp}{Q:b7}{N:TE}(G:PE X e N)(I:Inv X pins σ H s)
  (h:N σ H λx H1=>∃a C M fs g,x=.ref a/\H1 a=some (.ins C M fs)/\j9 X.K C/\Meth X.K C m g/\fs.lookup m=none/\
   ∀T,Inv X pins σ H1 T->wpAny (model X.prog X.w) X.A (callWith pos (.ref g) [.ref a] (backTo pos (starEach Y X.env)) (backToKw pos (keywordEach [] X.env))) Q X.xe T)
  (E:eval (.Call (.Attribute e m U) Y [] pos) X.env=(do
   let L <-eval e X.env
   standAt U.atName
   let (f,first) <-holding [L] (getMethod L m pl)
   callWith pos f first (backTo pos (starEach Y X.env)) (backToKw pos (keywordEach [] X.env)))) :
  wpAny (model X.prog X.w) X.A (eval (.Call (.Attribute e m U) Y [] pos) X.env) Q X.xe s:=by
 refine Hu (pl:=pl) (aZ (G pins s σ H _ I h) λu T O=>?_) E;mleft;obtain⟨x,H1,J,D,a,C,M,fs,g,B,z,c,k,l,q⟩:=O;mright;subst B;obtain rfl:u=Value.ref a:=D;exact z9 J z c k l (q T J)
end
end
section
variable{mg:Str->Option Value}{base:Heap}{fd:FuncData}
structure fc(k:Nat)(A:Around):Prop where
 hd:A.handled=none
 dp:A.depth+3*k+5<recursionLimit
 un:A.units+16*k+200<cLine
theorem fc.mono{j k:Nat}{A:Around}(r:fc k A)(h:j<=k):fc j A:=⟨r.hd,by have:=r.dp;lia,by have:=r.un;lia⟩
theorem fc.deeper{k:Nat}{A:Around}(r:fc (k+1) A)(Y:Env):fc k (A.deeper Y):=
 ⟨r.hd,by have:=r.dp;show A.depth+1+3*k+5<_;lia,by have:=r.un;show A.units+3+16*k+200<_;lia⟩
theorem UX{A:Around}{C:Addr}{us:List Value}{Y:List (Str×Value)}:(A.under (.builtin "type.__call__" ⟨.ref C::us,Y⟩)).depth=A.depth+1:=by
 first|rfl|simp[Around.under,Code.weight,Code.isCreation,Code.isGuard,Code.isCaller,Code.frames,Code.isFrame,guardIds]
theorem UK{A:Around}{C:Addr}{us:List Value}{Y:List (Str×Value)}:(A.under (.builtin "type.__call__" ⟨.ref C::us,Y⟩)).units=A.units+1:=by
 first|rfl|simp[Around.under,Code.cUnits,Code.frames,Code.isFrame]
theorem fc.make{k:Nat}{A:Around}(r:fc (k+1) A)(C:Addr)(us:List Value)(Y:List (Str×Value)):fc k (A.under (.builtin "type.__call__" ⟨.ref C::us,Y⟩)):=
 ⟨r.hd,by have:=r.dp;rw[UX];lia,by have:=r.un;rw[UK];lia⟩
theorem fc.depth{k:Nat}{A:Around}(r:fc k A):A.depth<recursionLimit:=by have:=r.dp;lia
theorem fc.units{k:Nat}{A:Around}(r:fc k A):A.units+64<cLine:=by have:=r.un;lia
def C3:TA:=λ_ H Q=>Q [] H
def w9(Y:TE)(U:TA):TA:=λσ H Q=>Y σ H λx H1=>U σ H1 λxs T=>Q (x::xs) T
section
variable{X:Cx}{e:Expr}{es:List Expr}{te:TE}{t:TA}{pos:Pos}
theorem ai:PA X [] C3:=λ_ _ _ _ H Q I h=>HF ⟨[],H,I,.nil,h⟩
theorem aa(U:PE X e te)(hr:PA X es t)(T:starEach (e::es) X.env=(false,eval e X.env)::starEach es X.env:=by rfl):PA X (e::es) (w9 te t):=by
 intro pos pins s σ H Q I h;rw[T];show wpAny _ _ (spliced ((false,eval e X.env)::backTo pos (starEach es X.env))) _ _ s;refine Af (aZ (U pins s σ H _ I h) λu O Y=>?_);mleft;obtain⟨x,H1,N,M,L⟩:=Y;mright;exact aZ (hr pos pins O σ H1 _ N L) λus C ⟨xs,J,G,E,D⟩=>⟨x::xs,J,G,.cons M E,D⟩
def abo(t:TA):TE:=λσ H Q=>t σ H λxs H1=>xs.length<=sizeLine/\∀p,H1 p=none->Q (.ref p) (upd H1 p (.tup xs))
def aaO(t:TA):TE:=λσ H Q=>t σ H λxs H1=>xs.length<=sizeLine/\∀p,H1 p=none->Q (.ref p) (upd H1 p (.lst xs))
theorem jL{T}(h:PA X es t):PE X (.Tuple es T pos) (abo t):=by
 intro pins s σ H Q I O;refine wpAny_Tuple_spliced (aZ (h pos pins s σ H _ I O) λus Y ⟨xs,H1,U,r,z,q⟩=>⟨by rw[<-r.length];exact z,?_⟩)
 have N:H1 Y.heap.objs.size=none:=U.aQ.fresh (bD _);refine⟨.ref Y.heap.objs.size,upd H1 Y.heap.objs.size (.tup xs),U.laid (t':=Y.toks) (λb u e=>cA _ e) (bD _) ?_,rfl,q _ N⟩;exact⟨z,us,r,⟨_,eR _ rfl,rfl,_,rfl⟩⟩
theorem dt(h:PA X es t):PE X (.List es pos) (aaO t):=by
 intro pins s σ H Q I T;refine wpAny_List_spliced (aZ (h pos pins s σ H _ I T) λus Y ⟨xs,H1,U,r,z,q⟩=>⟨by rw[<-r.length];exact z,?_⟩)
 have O:H1 Y.heap.objs.size=none:=U.aQ.fresh (bD _);refine⟨.ref Y.heap.objs.size,upd H1 Y.heap.objs.size (.lst xs),U.laid (t':=Y.toks) (λb u e=>cA _ e) (bD _) ?_,rfl,q _ O⟩;exact⟨z,us,0,r,eR _ rfl⟩
end
abbrev Sp:=List V->Hp->VK->XK->Prop
abbrev sO:=List Env->Hp->Shared->XK->Value->Shared->Prop
structure Gr(P:Program)(w:World)(K:W.Frag)(mg:Str->Option Value)(base:Heap)(A:Around)(outer:List Env)(s:Shared)(H:Hp):Prop where
 frames:A.frames=some outer
 mod:Mod K mg base
 bs:∀b o,base.get? b=some o->s.heap.get? b=some o/\H b=none
 BW:base.objs.size<=s.heap.objs.size
 qL:s.heap.FunFrames base outer
 JU:∀b∈pP outer,H b=none
 aQ:fH P w H s.heap
 bare:AllBare s.gens
def CE(Y:List Env)(P:Program)(w:World)(H:Hp)(s:Shared)(Q:VK)(u:Value)(U:Shared):Prop:=
 X2 λv T=>Y6 (U.os=s.os) (AllBare U.gens) (Un (pP Y) [] H T s.heap U.heap) (fH P w T U.heap) (RelV v u) (Q v T)
def CR(CX:sO)(Y:List Env)(P:Program)(w:World)(H:Hp)(s:Shared)(Q:VK)(E:XK)(r:Result)(U:Shared):Prop:=
 match r with
 |.ok (.ret u)=>CE Y P w H s Q u U
 |.ok _=>False
 |.error e=>CX Y H s E e U
structure aM(P:Program)(w:World)(K:W.Frag)(mg:Str->Option Value)(base:Heap)(CX:sO)(k:Nat)(f:Addr)(fd:FuncData)(ps:List Str)(sp:Sp):Prop where
 len:∀vs H Q E,sp vs H Q E->vs.length=ps.length
 run:∀(A:Around) (outer:List Env) (s:Shared) (H:Hp) (args:Args) (us:List Value) (vs:List V) (Q:VK) (E:XK),fc k A->Gr P w K mg base A outer s H->BindsTo s fd args (ps.zip us)->Vals vs us->sp vs H Q E->
  codeAny (model P w) A (.call (.ref f) args) (CR CX outer P w H s Q E) s
theorem aM.mono{P:Program}{w:World}{K:W.Frag}{CX:sO}{j k:Nat}{f:Addr}{ps:List Str}{sp:Sp}(F:aM P w K mg base CX j f fd ps sp)(h:j<=k) :
  aM P w K mg base CX k f fd ps sp:=⟨F.len,λA Y s H U us vs Q E hr=>F.run A Y s H U us vs Q E (hr.mono h)⟩
theorem aM.imp{P:Program}{w:World}{K:W.Frag}{CX:sO}{k:Nat}{f:Addr}{ps:List Str}{sp sp':Sp}(F:aM P w K mg base CX k f fd ps sp)
  (h:∀vs H Q E,sp' vs H Q E->sp vs H Q E):aM P w K mg base CX k f fd ps sp':=
 ⟨λvs H Q E q=>F.len vs H Q E (h _ _ _ _ q),λA Y s H U us vs Q E hr T O N M=>F.run A Y s H U us vs Q E hr T O N (h _ _ _ _ M)⟩
theorem Gr.make{P:Program}{w:World}{K:W.Frag}{A:Around}{Y:List Env}{s:Shared}{H:Hp}(e:Gr P w K mg base A Y s H)(C:Addr)(us:List Value)(U:List (Str×Value)) :
  Gr P w K mg base (A.under (.builtin "type.__call__" ⟨.ref C::us,U⟩)) Y s H:=⟨by first|exact e.frames|(simpa[Around.under,Code.envs,Code.isFrame,pushEnvs]using e.frames),e.mod,e.bs,e.BW,e.qL,e.JU,e.aQ,e.bare⟩
section
variable{X:Cx}{pins:bO}{σ:St}{H:Hp}{s s':Shared}
theorem Inv.Yc(I:Inv X pins σ H s):Gr X.prog X.w X.K X.mg X.base X.A X.stack s H:=
 ⟨I.ok.frames,I.ok.mod,I.bs,bT I.ok.BW I.sz,I.stack,I.J4,I.aQ,I.bare⟩
theorem Inv.after{Q:VK}{u:Value}(I:Inv X pins σ H s)(h:CE X.stack X.prog X.w H s Q u s'):EP X pins σ Q u s':=by
 mleft;obtain⟨v,T,os,Y,un,aQ,r,q⟩:=h;mright;mleft;obtain⟨O,g,d,t,U⟩:=s';mright;obtain rfl:U=s.os:=os;exact⟨v,T,I.call (h':=O) (g':=g) (d':=d) (t':=t) (ch:=[]) un aQ Y (λb z=>absurd z aP),r,q⟩
end
def Tt(sp:Sp)(dvs:List V)(E:XK)(t:TA):TE:=λσ H Q=>t σ H λvs H1=>sp (vs++dvs) H1 Q E
def Nn(C:Addr)(m:Str)(sp:Sp)(dvs:List V)(E:XK)(Y:TE)(t:TA):TE:=λσ H Q=>Y σ H λx H1=>Fv x λa=>PC C a H1 λT fs=>fs.lookup m=none/\
 t σ H1 λvs U=>sp (x::(vs++dvs)) U Q E
def Us(C:Addr)(sp:Sp)(dvs:List V)(E:XK)(t:TA):TE:=λσ H Q=>t σ H λvs H1=>∀x Y,H1 x=none->H1 Y=none->Y≠x->
 sp (.ref x::(vs++dvs)) (upd (upd H1 Y (.own x)) x (.ins C Y [])) (λv U=>v=.aX/\Q (.ref x) U) E
def Binds(K:W.Frag)(fd:FuncData)(ps:List Str)(Y:List Value):Prop:=
 ∀(s:Shared) (us:List Value),K.In s.heap->(us++Y).length=ps.length->BindsTo s fd ⟨us,[]⟩ (ps.zip (us++Y))
theorem Binds.all{K:W.Frag}{ps:List Str}(h:∀us:List Value,us.length=ps.length->bindArgs fd ⟨us,[]⟩=pure (ps.zip us)):Binds K fd ps []:=λs us _ Y=>by
 rw[iN]at Y ⊢;exact .of_eq (h us Y)
def Passes(CX:sO)(X:Cx)(E:XK):Prop:=∀(pins:bO) (σ:St) (H:Hp) (s:Shared) (e:Value) (Y:Shared),Inv X pins σ H s->CX X.stack H s E e Y->X.xe e Y
section
variable{X:Cx}{CX:sO}{k:Nat}{f C:Addr}{fd:FuncData}{ps:List Str}{sp:Sp}{dvs:List V}{ds:List Value}{E:XK}{x m:Str}{p pos apos:Pos}{e o:Expr}{es:List Expr}{ta:TE}{t:TA}
theorem En{pins:bO}{σ:St}{H:Hp}{s:Shared}{Q:VK}{us:List Value}{vs:List V}(F:aM X.prog X.w X.K X.mg X.base CX k f fd ps sp)(hr:fc k X.A)(T:Binds X.K fd ps ds)(hd:Vals dvs ds)(O:Passes CX X E)
  (I:Inv X pins σ H s) (r:Vals vs us) (h:sp (vs++dvs) H Q E):wpAny (model X.prog X.w) X.A (call (.ref f) us) (EP X pins σ Q) X.xe s:=by
 have U:Vals (vs++dvs) (us++ds):=r.append hd;have N:(us++ds).length=ps.length:=by rw[<-U.length];exact F.len _ _ _ _ h
 refine HV (Il (F.run X.A X.stack s H ⟨us,[]⟩ (us++ds) (vs++dvs) Q E hr I.Yc (T s us I.gT N) U h) λr M Y=>?_);cases r with
 |error e=>exact O pins σ H s e M I Y
 |ok L =>
  cases L with
  |ret u=>exact I.after Y
  |next=>exact False.elim Y
  |brk=>exact False.elim Y
  |cont=>exact False.elim Y
theorem aB(F:aM X.prog X.w X.K X.mg X.base CX k f fd ps sp)(hr:fc k X.A)(O:Gl X x)(N:X.mg x=some (.ref f))(M:W.keepIn X.K (.ref f)=true)(L:Binds X.K fd ps ds)(hd:Vals dvs ds)(J:Passes CX X E)
  (G:PA X (e::es) t) (Y:(x==("__debug__":Str))=false:=by decide) (D:starEach (e::es) X.env=(false,eval e X.env)::starEach es X.env:=by rfl) (U:(backTo pos (starEach es X.env)).any (·.1)=false:=by rfl) :
  PE X (.Call (.Name x p) (e::es) [] pos) (Tt sp dvs E t):=by
 intro pins s σ H Q I h;refine IP (vf I O N ?_ Y);refine Ij (h₀:=X.base) I.ok.mod.PU M (aZ (G pos pins s σ H _ I h) λus C ⟨vs,H1,T,r,q⟩=>⟨T.gT,?_⟩) D U;exact En F hr L hd J T r q
theorem Kg{pl:Sem Bool}(J:PE X o ta)(c:j9 X.K C)(O:Meth X.K C m f)(F:aM X.prog X.w X.K X.mg X.base CX k f fd ps sp)(hr:fc k X.A)(G:Binds X.K fd ps ds)(hd:Vals dvs ds)(D:Passes CX X E)(B:PA X (e::es) t)
  (Y:starEach (e::es) X.env=(false,eval e X.env)::starEach es X.env:=by rfl) (U:(backTo pos (starEach es X.env)).any (·.1)=false:=by rfl)
  (z:eval (.Call (.Attribute o m apos) (e::es) [] pos) X.env=(do
   let N <-eval o X.env
   standAt apos.atName
   let (f,first) <-holding [N] (getMethod N m pl)
   callWith pos f first (backTo pos (starEach (e::es) X.env)) (backToKw pos (keywordEach [] X.env))):=by rfl) :
  PE X (.Call (.Attribute o m apos) (e::es) [] pos) (Nn C m sp dvs E ta t):=by
 intro pins s σ H Q I h;refine Hu (pl:=pl) (aZ (J pins s σ H _ I h) λu y T=>?_) z;mleft;obtain⟨x,H1,M,v,p⟩:=T;mright;mleft;obtain⟨a,n,g,fs,j,l,q⟩:=oZ.mp p;mright;subst n;obtain rfl:u=Value.ref a:=v;refine z9 M j c O l ?_;refine Ij (first:=[.ref a]) (h₀:=X.base) I.ok.mod.PU O.kp (aZ (B pos pins y σ H1 _ M q) λus d ⟨vs,b,L,r,i⟩=>⟨L.gT,?_⟩) Y U
 exact En (us:=.ref a::us) (vs:=.ref a::vs) F hr G hd D L (.cons rfl r) i
theorem b5{pl:Sem Bool}(N:PE X o ta)(c:j9 X.K C)(T:Meth X.K C m f)(F:aM X.prog X.w X.K X.mg X.base CX k f fd ps sp)(hr:fc k X.A)(M:Binds X.K fd ps ds)(hd:Vals dvs ds)(L:Passes CX X E)
  (J:eval (.Call (.Attribute o m apos) [] [] pos) X.env=(do
   let O <-eval o X.env
   standAt apos.atName
   let (f,first) <-holding [O] (getMethod O m pl)
   callWith pos f first (backTo pos (starEach [] X.env)) (backToKw pos (keywordEach [] X.env))):=by rfl) :
  PE X (.Call (.Attribute o m apos) [] [] pos) (Nn C m sp dvs E ta C3):=by
 intro pins s σ H Q I h;refine Hu (pl:=pl) (aZ (N pins s σ H _ I h) λu y Y=>?_) J;mleft;obtain⟨x,H1,U,G,D⟩:=Y;mright;mleft;obtain⟨a,B,v,fs,z,l,q⟩:=oZ.mp D;mright;subst B;obtain rfl:u=Value.ref a:=G;refine z9 U z c T l ?_;exact W.callWith_K0 (first:=[.ref a]) U.gT T.kp (En (us:=[.ref a]) (vs:=[.ref a]) F hr M hd L U (.cons rfl .nil) q)
structure Mk(K:W.Frag)(C f:Addr):Prop where
 makes:W.makesIn K C=true
 init:W.findIn K (.ref C) "__init__"=some (some (.ref f))
 fn:W.isFn K (.ref f)=true
 kp:W.keepIn K (.ref C)=true
theorem W6{pins:bO}{σ:St}{H:Hp}{s:Shared}{Q:VK}{us:List Value}{vs:List V}(M:Mk X.K C f)(F:aM X.prog X.w X.K X.mg X.base CX k f fd ps sp)(hr:fc (k+1) X.A)(L:Binds X.K fd ps ds)(hd:Vals dvs ds)
  (J:Passes CX X E) (I:Inv X pins σ H s) (r:Vals vs us)
  (h:∀x U,H x=none->H U=none->U≠x->sp (.ref x::(vs++dvs)) (upd (upd H U (.own x)) x (.ins C U [])) (λv G=>v=.aX/\Q (.ref x) G) E) :
  wpAny (model X.prog X.w) X.A (call (.ref C) us) (EP X pins σ Q) X.xe s:=by
 have O:=h (s.heap.objs.size+1) s.heap.objs.size (I.aQ.fresh (Nat.le_succ _)) (I.aQ.fresh (bD _)) (fZ (Nd _));have T:=Inv.made (C:=C) I;have N:Vals (V.ref (s.heap.objs.size+1)::(vs++dvs)) (Value.ref (s.heap.objs.size+1)::(us++ds)):=.cons rfl (r.append hd);have D:(Value.ref (s.heap.objs.size+1)::us++ds).length=ps.length:=by
  have e:=N.length;rw[F.len _ _ _ _ O]at e;exact e.symm
 refine HV (Yr (f:=f) I.gT M.makes M.init (beq_iff_eq.mp M.fn) (Il (F.run _ X.stack _ _ ⟨Value.ref (s.heap.objs.size+1)::us,[]⟩ (Value.ref (s.heap.objs.size+1)::(us++ds)) _ _ E (hr.make C us [])
  (T.Yc.make C us []) (L _ (Value.ref (s.heap.objs.size+1)::us) T.gT D) N O) λr B Y=>?_))
 cases r with
 |error e=>exact J pins σ _ _ e B T Y
 |ok z =>
  cases z with
  |ret u =>
   mleft;obtain⟨v,y,q,p,ev,o⟩:=T.after Y;mright;subst ev;exact⟨p,⟨V.ref (s.heap.objs.size+1),y,q,rfl,o⟩⟩
  |next=>exact False.elim Y
  |brk=>exact False.elim Y
  |cont=>exact False.elim Y
theorem d7(M:Mk X.K C f)(F:aM X.prog X.w X.K X.mg X.base CX k f fd ps sp)(hr:fc (k+1) X.A)(O:Gl X x)(N:X.mg x=some (.ref C))(L:Binds X.K fd ps ds)(hd:Vals dvs ds)(J:Passes CX X E)
  (G:PA X (e::es) t) (Y:(x==("__debug__":Str))=false:=by decide) (D:starEach (e::es) X.env=(false,eval e X.env)::starEach es X.env:=by rfl) (U:(backTo pos (starEach es X.env)).any (·.1)=false:=by rfl) :
  PE X (.Call (.Name x p) (e::es) [] pos) (Us C sp dvs E t):=by
 intro pins s σ H Q I h;refine IP (vf I O N ?_ Y);refine Ij (h₀:=X.base) I.ok.mod.PU M.kp (aZ (G pos pins s σ H _ I h) λus B ⟨vs,H1,T,r,q⟩=>⟨T.gT,?_⟩) D U;exact W6 M F hr L hd J T r q
end
structure aD(N P:List Str)(sc:Scope):Prop where
 kind:sc.kind=.function
 co:sc.isCoroutine=false
 gen:sc.isGenerator=false
 nd:N.Nodup
 pre:N.take P.length=P
 par:∀x∈P,sc.names.lookup x=some .local\/sc.names.lookup x=some .cell
 aaR:∀y∈sc.names,y.2≠.free
theorem LQ{kindOf:Str->Option NameKind}{x:Str}:∀{binds:List (Str×Value)} {m:Str->Option Value},(∀v,(x,v)∉binds)->bindL kindOf binds m x=m x
 |[],_,_=>rfl
 |(n,v)::r,m,h=>by
  unfold bindL;rw[LQ λw Y=>h w (cF _ Y)];split
  .have:x≠n:=by rintro rfl;exact h v df
   simp[this]
  rfl
theorem Mm{kindOf:Str->Option NameKind}{x:Str}:∀{binds:List (Str×Value)} {m:Str->Option Value},(∀v,(x,v)∉binds)->bindC kindOf binds m x=m x
 |[],_,_=>rfl
 |(n,v)::r,m,h=>by
  unfold bindC;rw[Mm λw Y=>h w (cF _ Y)];split
  .rfl
  have:x≠n:=by rintro rfl;exact h v df
  simp[this]
theorem Lo{kindOf:Str->Option NameKind}{x:Str}{v:Value}:∀{P:List Str} {vs:List Value} {i:Nat} {m:Str->Option Value},P.Nodup->P[i]?=some x->vs[i]?=some v->kindOf x=some .local->
  bindL kindOf (P.zip vs) m x=some v
 |[],_,_,_,_,h,_,_=>by simp at h
 |_::_,[],_,_,_,_,h,_=>by simp at h
 |p::P,w::vs,0,m,T,Y,U,Q=>by
  simp at Y U;subst Y;subst U;show bindL kindOf ((p,w)::P.zip vs) m p=_;unfold bindL;rw[LQ λv O=>(qD.mp T).1 (ED O).1,ag Q];simp
 |p::P,w::vs,i+1,m,T,Y,U,Q=>by
  show bindL kindOf ((p,w)::P.zip vs) m x=_;unfold bindL;exact Lo (i:=i) (qD.mp T).2 (by simpa using Y) (by simpa using U) Q
theorem Mg{kindOf:Str->Option NameKind}{x:Str}{v:Value}:∀{P:List Str} {vs:List Value} {i:Nat} {m:Str->Option Value},P.Nodup->P[i]?=some x->vs[i]?=some v->kindOf x≠some .local->
  bindC kindOf (P.zip vs) m x=some v
 |[],_,_,_,_,h,_,_=>by simp at h
 |_::_,[],_,_,_,_,h,_=>by simp at h
 |p::P,w::vs,0,m,T,Y,U,Q=>by
  simp at Y U;subst Y;subst U;show bindC kindOf ((p,w)::P.zip vs) m p=_;unfold bindC;rw[Mm λv O=>(qD.mp T).1 (ED O).1,ae Q];simp
 |p::P,w::vs,i+1,m,T,Y,U,Q=>by
  show bindC kindOf ((p,w)::P.zip vs) m x=_;unfold bindC;exact Mg (i:=i) (qD.mp T).2 (by simpa using Y) (by simpa using U) Q
def start(N:List Str)(vs:List V):St:=vs.map some++List.replicate (N.length - vs.length) none
def vO(CX:sO)(P:Program)(w:World)(K:W.Frag)(mg:Str->Option Value)(base:Heap)(N:List Str)(U:Str)(Y:Scope)(f:Addr)(Q:Value)(A:Around)(outer:List Env)(s:Shared)(H:Hp)(E:XK):Cx where
 prog:=P
 w:=w
 K:=K
 mg:=mg
 base:=base
 A:=A.deeper (envOfC U Y s.heap.objs.size f Q)
 N:=N
 m7:=s
 Pb:=H
 env:=envOfC U Y s.heap.objs.size f Q
 outer:=outer
 stack:=envOfC U Y s.heap.objs.size f Q::outer
 ex:=[]
 calm:=true
 fn:=λ_=>true
 pn:=[]
 xe:=λe O=>wpAny (model P w) (A.deeper (envOfC U Y s.heap.objs.size f Q)) (leaving (envOfC U Y s.heap.objs.size f Q) e) (λ_ T=>CX outer H s E e T) (λM T=>CX outer H s E M T) O
theorem OI{Y:Scope}{n:Nat}{x:Str}(h:Y.names.lookup x=some .cell):∃c,(cellsFrom n Y.names []).lookup x=some c:=by
 have q:=W.cellsFrom_some Y.names n [] (.inl h);exact Uq.mp q
theorem V2{CX:sO}{P:Program}{w:World}{K:W.Frag}{N ps:List Str}{T:Str}{Y:Scope}{f:Addr}{J:Value}{A:Around}{U:List Env}{s s1:Shared}{H:Hp}{E:XK}{us:List Value}{vs:List V}
  (S:aD N ps Y) (hd:A.handled=none) (e0:Gr P w K mg base A U s H) (l:vs.length=ps.length) (r:Vals vs us)
  (x:InCallC s s.heap.objs.size (bindL (envOfC T Y s.heap.objs.size f J).kindOf (ps.zip us) λ_=>none) (cellsFrom (s.heap.objs.size+1) Y.names []) (bindC (envOfC T Y s.heap.objs.size f J).kindOf (ps.zip us) λ_=>none) s1) :
  Inv (vO CX P w K mg base N T Y f J A U s H E) [] (start N vs) H s1:=by
 have B:ps.length<=N.length:=by have:=mR List.length S.pre;rw[iA]at this;lia
 mleft;obtain⟨I,tk,rfl,D⟩:=x.done;mright;have Ld:∀b:Addr,b∉(vO CX P w K mg base N T Y f J A U s H E).ex:=λb z=>absurd (show b∈([]:List Addr)from z) aP;refine⟨⟨e0.mod,S.kind,rfl,rfl,bD _,λy z c I Q=>?_,λy O=>?_,λy c _ h=>?_,λ_=>hd,Around.frames_deeper e0.frames,.inr ⟨rfl,rfl⟩,λb z=>absurd z (Ld b),e0.bs,e0.BW,λb _ _=>Ld b,λb z=>absurd z (Ld b),e0.qL,e0.JU⟩,
  rfl,e0.bare,Un.kept D,⟨_,x.toInCall.ns,λi y v I Q j=>?_⟩,λy c h=>⟨_,x.cell y c h⟩,e0.aQ.fresh (bD _),λy c h=>?_,λp M=>absurd (show p∈([]:bO)from M) aP,e0.aQ.kept D,?_⟩
 .exact name_of_addr x.apart (ku I) (ku Q)
 .have O:Y.names.lookup y=some .cell\/Y.names.lookup y=some .free:=O;rcases O with O|O
  .exact OI O
  exact absurd rfl (S.aaR _ (ku O))
 .exact Nj (x.above y c (ku h))
 .have G:i<vs.length:=by
   unfold start at Q;by_cases G:i<vs.length
   .exact G
   rw[oC (by simpa using G)]at Q
   rw[Y2]at Q;split at Q<;>cases Q
  have o:vs[i]?=some v:=by
   unfold start at Q;rw[uq (by simpa using G),cM]at Q
   cases e:vs[i]? with
   |none=>rw[e]at Q;cases Q
   |some a=>rw[e]at Q;cases Q;rfl
  obtain⟨u,C,m⟩:=r.get o;have M:ps[i]?=some y:=by
   rw[<-S.pre,List.getElem?_take_of_lt ao];exact I
  have L:ps.Nodup:=by rw[<-S.pre];exact S.nd.sublist (List.take_sublist _ _)
  refine⟨u,m,?_⟩;rcases S.par y (cI M)with k|k
  .exact .inl ⟨k,Lo L M C k⟩
  obtain⟨c,e⟩:=OI (n:=s.heap.objs.size+1) k;refine .inr ⟨.inl k,c,e,?_⟩;have q:=x.cell y c e;rw[Mg L M C (by show Y.names.lookup y≠_;rw[k];decide)]at q
  exact q
 .exact e0.aQ.fresh (Nj (x.above y c (ku h)))
 unfold start;show _=N.length;rw[ee,bG,ab9];lia
theorem YA{CX:sO}{P:Program}{w:World}{K:W.Frag}{k:Nat}{f:Addr}{name T:Str}{M:Arguments}{L:List Stmt}{Y:Scope}{d kV p c O a oc:Value}{an od:Option Addr}
  {l:Array (Option Value)} {N ps:List Str} {sp:Sp} (lk:K.lookup f=some ⟨oc,od,.func (W.fnOf name T M L Y d kV p c an O a),l⟩) (j:W.codeIn K O T=true) (S:aD N ps Y)
  (len:∀vs H Q E,sp vs H Q E->vs.length=ps.length)
  (C:∀(A:Around) (U:List Env) (s:Shared) (H:Hp) (vs:List V) (Q:VK) (E:XK),fc k (A.deeper (envOfC T Y s.heap.objs.size f O))->sp vs H Q E->
   ∃t,uM (vO CX P w K mg base N T Y f O A U s H E) L t/\t { nx:=λ_ D=>Q .aX D,rt:=Q } (start N vs) H) :
  aM P w K mg base CX (k+1) f (W.fnOf name T M L Y d kV p c an O a) ps sp:=by
 refine⟨len,λA U s H ab us vs Q E hr e0 hb r m=>?_⟩;have hl:=len _ _ _ _ m;have KX:K.In s.heap:=e0.mod.PU.keeps λb o e=>(e0.bs b o e).1;have i:s.heap.NoLimit:=e0.mod.nolimit.keeps λb o e=>(e0.bs b o e).1;have B:∀y∈ps.zip us,Y.names.lookup y.1=some .local\/(Y.names.lookup y.1=some .cell/\((cellsFrom (s.heap.objs.size+1) Y.names []).lookup y.1).isSome=true):=λ⟨n,v⟩ hy=>by
  rcases S.par n (ED hy).1 with q|q
  .exact .inl q
  exact .inr ⟨q,W.cellsFrom_some _ _ _ (.inl q)⟩
 refine codeAny_call_function hr.depth (KX _ _ lk) rfl S.co S.gen rfl (W.codeRec_of KX j) (hb _ _ _ _ ?_);refine wpAny_newFunctionEnv_cells S.kind B λal he s1 x=>?_;subst he;refine⟨i.keeps x.toInCall.keep,codeAny_func ?_⟩;obtain⟨t,ht,hq⟩:=C A U s H vs Q E (hr.deeper _) m;have I:Inv (vO CX P w K mg base N T Y f O A U s H E) [] (start N vs) H s1:=V2 S hr.hd e0 hl r x;refine i5 (ht [] s1 (start N vs) H _ I hq) (λfl s' z=>?_) λe s' z=>z;have fin:∀{G:St} {D:Hp} {v:V} {u:Value},Inv (vO CX P w K mg base N T Y f O A U s H E) [] G D s'->RelV v u->Q v D->CE U P w H s Q u s':=
  λ{G D v u} J g q=>⟨v,D,J.os,J.bare,J.base,J.aQ,g,q⟩
 cases fl with
 |ret u =>
  mleft;obtain⟨v,G,D,J,g,q⟩:=z;mright;exact fin J g q
 |next =>
  mleft;obtain⟨G,D,J,q⟩:=z;mright;exact fin (v:=V.aX) (u:=Value.none) J rfl q
 |brk =>
  mleft;obtain⟨_,_,_,q⟩:=z;mright;exact False.elim q
 |cont =>
  mleft;obtain⟨_,_,_,q⟩:=z;mright;exact False.elim q
end
section
section
variable{X:Cx}{x:Str}{p pos:Pos}{e:Expr}{es:List Expr}{t:TA}{id T:String}{r:List V->Hp->VK->Prop}
def tCB(r:List V->Hp->VK->Prop)(t:TA):TE:=λσ H Q=>t σ H λvs H1=>r vs H1 Q
theorem bH(T:Es X (.builtin id) r)(O:Gl X x)(N:X.mg x=none)(M:bootBuiltins x=some (.builtin id))(L:PA X (e::es) t)(J:x≠"__name__":=by decide)(Y:(x==("__debug__":Str))=false:=by decide)
  (G:starEach (e::es) X.env=(false,eval e X.env)::starEach es X.env:=by rfl) (U:(backTo pos (starEach es X.env)).any (·.1)=false:=by rfl):PE X (.Call (.Name x p) (e::es) [] pos) (tCB r t):=by
 intro pins s σ H Q I h;refine IP (wC I O N M ?_ J Y);exact PyProof.Rows.callWith_builtin1 (aZ (L pos pins s σ H _ I h) λus E ⟨vs,H1,D,C,B⟩=>T pins E σ H1 vs us Q D C B) G U
end
end
end L2
namespace HT
open PySem PyProof.Rows
section
variable{prog:Program}{w:World}{A:Around}{E:b7}{s:Shared}
def qP(n d:Nat):Option Int->Nat
 |none=>d
 |some v=>if v<0 then(v+(n:Int)).toNat else min v.toNat n
theorem Sa(n d k:Nat):qP n d (some (k:Int))=min k n:=by
 show(if (k:Int)<0 then((k:Int)+(n:Int)).toNat else min (k:Int).toNat n)=min k n
 rw[ae ao,nc]
end
end HT
namespace L2
open PySem PySem.Spec PyProof.Rows
section
abbrev TO:=St->Hp->(Option Int->Hp->Prop)->Prop
def PO(X:Cx)(e:Option Expr)(t:TO):Prop:=
 ∀(pins:bO) (s:Shared) (σ:St) (H:Hp) (Q:Option Int->Hp->Prop),Inv X pins σ H s->t σ H Q->
  wpAny (model X.prog X.w) X.A (evalPart e X.env) (λu U=>X2 λo Y=>Y3 (Inv X pins σ Y U) (IsPart u o) (Q o Y)) X.xe s
def ab5(t:TE):TO:=λσ H Q=>t σ H λx H1=>∃i,x=.int i/\Q (some i) H1
section
variable{X:Cx}{e:Expr}{te:TE}{lo hi:Option Expr}{tl th:TO}{pos p2:Pos}
theorem Sk(h:PE X e te):PO X (some e) (ab5 te):=by
 intro pins s σ H Q I U;rw[To];refine aZ (h pins s σ H _ I U) λu M Y=>?_;mleft;obtain⟨x,H1,T,O,N⟩:=Y;mright;obtain⟨i,rfl,q⟩:=N;obtain⟨t,rfl⟩:=O;exact⟨some i,H1,T,.int i t,q⟩
def SlR(X:Cx)(r:V->Option Int->Option Int->Hp->VK->Prop):Prop:=
 ∀(pins:bO) (s:Shared) (σ:St) (H:Hp) (x:V) (v vl Y:Value) (lo hi:Option Int) (U:Addr) (Q:VK),Inv X pins σ H s->RelV x v->s.heap.IsSliceOf U vl Y .none->IsPart vl lo->IsPart Y hi->r x lo hi H Q->
  ∃T id,typeLookup (.type T) "__getitem__"=pure (some (.builtin id))/\s.TypeIs v T/\wpAny (model X.prog X.w) X.A (getItem v (.ref U)) (EP X pins σ Q) X.xe s
def tSl(r:V->Option Int->Option Int->Hp->VK->Prop)(te:TE)(tl th:TO):TE:=λσ H Q=>te σ H λx H1=>tl σ H1 λl Y=>th σ Y λu U=>r x l u U Q
theorem Xx{r:V->Option Int->Option Int->Hp->VK->Prop}(hr:SlR X r)(M:PE X e te)(L:PO X lo tl)(J:PO X hi th):PE X (.Subscript e (.Slice lo hi none p2) pos) (tSl r te tl th):=by
 intro pins s σ H Q I h;refine Subscript_ (aZ (M pins s σ H _ I h) λv G U=>?_);mleft;obtain⟨x,H1,E,D,C⟩:=U;mright;refine wpAny_Slice (aZ (L pins G σ H1 _ E C) λvl B ⟨l,z,y,pl,p⟩=>aZ (J pins B σ z _ y p) λO Y U=>?_);mleft;obtain⟨u,N,o,n,m⟩:=U;mright;rw[evalPart_none];refine bf ?_;have j:Inv X pins σ N { Y with heap:=Y.heap.push { cls:=.type "slice",data:=.fields #[vl,O,.none] } }:=o.kept (t':=Y.toks) λb d q=>cA _ q
 mleft;obtain⟨T,id,i,g,f⟩:=hr pins { Y with heap:=Y.heap.push { cls:=.type "slice",data:=.fields #[vl,O,.none] } } σ N x v vl O l u Y.heap.objs.size Q j D (Heap.IsSliceOf.new ..) pl n m
 mright;show wpAny (model X.prog X.w) X.A (subscriptTail e (.Slice lo hi none p2) v (.ref Y.heap.objs.size)) (EP X pins σ Q) X.xe { Y with heap:=Y.heap.push { cls:=.type "slice",data:=.fields #[vl,O,.none] } }
 exact tail_any (ops:=[.ref Y.heap.objs.size,v]) g i f (by with_unfolding_all rfl)
def Ka(xs:List V)(lo hi:Option Int):List V:=(xs.drop (HT.qP xs.length 0 lo)).take (HT.qP xs.length xs.length hi - HT.qP xs.length 0 lo)
theorem QU(xs:List V)(lo hi:Option Int):(Ka xs lo hi).length<=xs.length:=by
 unfold Ka;rw[iA,Nm];lia
end
end
section
variable{σ:St}
def Dg(n:Nat)(i:Int):Option Nat:=if 0<=i then(if i<n then some i.toNat else none)else if -(n:Int)<=i then some (i+n).toNat else none
def Fj{α:Type}(xs:List α)(i:Int):Option α:=(Dg xs.length i).bind λj=>xs[j]?
theorem RP{n:Nat}{i:Int}{j:Nat}(h:Dg n i=some j):seqIndex? i n=some j/\j<n/\-(n:Int)<=i/\i<n:=by
 unfold Dg at h;by_cases U:0<=i
 .rw[ag U]at h;by_cases Y:i<n
  .rw[ag Y]at h;have e:i.toNat=j:=cp h;exact⟨by rw[seqIndex_of U Y,e],ao,ao,Y⟩
  rw[ae Y]at h;cases h
 rw[ae U]at h;by_cases Y:-(n:Int)<=i
 .rw[ag Y]at h;have e:(i+n).toNat=j:=cp h;exact⟨by rw[seqIndex_neg ao Y,e],ao,Y,ao⟩
 rw[ae Y]at h;cases h
theorem RK{α:Type}{xs:List α}{i:Int}{v:α}(h:Fj xs i=some v):∃j,seqIndex? i xs.length=some j/\xs[j]?=some v/\j<xs.length/\-(xs.length:Int)<=i/\i<xs.length:=by
 unfold Fj at h;cases e:Dg xs.length i with
 |none=>rw[e]at h;cases h
 |some j =>
  rw[e]at h;mleft;obtain⟨Y,U,T,Q⟩:=RP e;mright;exact⟨j,Y,h,U,T,Q⟩
theorem bE{α:Type}{xs:List α}{j:Nat}{v:α}(h:xs[j]?=some v):Fj xs (j:Int)=some v:=by
 have Y:j<xs.length:=(dE.mp h).1;have e:Dg xs.length (j:Int)=some j:=by
  unfold Dg;rw[ag ao,ag ao];simp
 unfold Fj;rw[e];exact h
theorem Ow{α:Type}(xs:List α)(v:α):Fj (xs++[v]) (-1)=some v:=by
 have Y:(xs++[v]).length=xs.length+1:=by simp
 have e:Dg (xs++[v]).length (-1)=some xs.length:=by
  unfold Dg;rw[Y,ae aG,ag ao];congr 1;lia
 unfold Fj;rw[e];show(xs++[v])[xs.length]?=some v;simp
def aah(b:Expr):Prop:=∀o i,subscripted b false o i=operate [o,i] (getItem o i)
def U0(X:Cx)(r:R2):Prop:=
 ∀(Y slice:Expr) (pins:bO) (s:Shared) (σ:St) (H:Hp) (x y:V) (v u:Value) (Q:VK),Inv X pins σ H s->RelV x v->RelV y u->r x y H Q->
  subscripted slice false v u=operate [v,u] (getItem v u)->wpAny (model X.prog X.w) X.A (subscriptTail Y slice v u) (EP X pins σ Q) X.xe s
def MtR(X:Cx)(id:String)(r:V->List V->Hp->VK->Prop):Prop:=
 ∀(pins:bO) (s:Shared) (σ:St) (H:Hp) (x:V) (xs:List V) (v:Value) (us:List Value) (Q:VK),Inv X pins σ H s->RelV x v->Vals xs us->r x xs H Q->
  wpAny (model X.prog X.w) X.A (call (.builtin id) (v::us)) (EP X pins σ Q) X.xe s
section
variable{X:Cx}{a b:Expr}{ta tb:TE}{pos:Pos}
theorem aS{r:R2}(hr:U0 X r)(Y:PE X a ta)(U:PE X b tb)(T:aah b):PE X (.Subscript a b pos) (yN r ta tb):=by
 intro pins s σ H Q I h;exact Subscript_ (Yo Y U I h λv u O x y N M L J q=>hr a b pins O σ N x y v u Q M L J q (T _ _))
def Um(K:W.Frag):R2:=λx y H Q=>Fv x λp=>xg y λi=>X2 λxs v=>Y3 (dn K H p xs) (Fj xs i=some v) (Q v H)
def SW(K:W.Frag):R2:=λx y H Q=>Fv x λp=>xg y λi=>X2 λxs v=>Y3 (uN K H p xs) (Fj xs i=some v) (Q v H)
theorem mN:U0 X (Um X.K):=by
 intro U slice pins s σ H x y v u Q I E D h L;obtain⟨p,rfl,T⟩:=oZ.mp h;mleft;obtain⟨i,rfl,xs,z,C,B,q⟩:=gC.mp T;mright;cases E;obtain⟨t,rfl⟩:=D;mleft;obtain⟨O,r,pl,hz⟩:=I.list C;mright;mleft;obtain⟨j,Y,T,l,A,o⟩:=RK B;mright;obtain⟨w,J,N⟩:=r.get T;have n:=r.length;have g:=y4;have fin:EP X pins σ Q w s:=⟨z,H,I,N,q⟩;by_cases G:0<=i
 .have M:i.toNat=j:=by
   rw[seqIndex_of G o]at Y;exact cp Y
  exact item_listR pl.isList G ao (by rw[M];simpa using J) fin L
 have M:(i+(O.toArray.size:Int)).toNat=j:=by
  rw[seqIndex_neg ao A]at Y;rw[eu,<-n];exact cp Y
 exact subscriptTail_builtinR (x:=w) pl.isList.typeIs slot_list_getitem.lookup
  (wpAny_getItem_list_neg (Q:=λr m=>r=w/\EP X pins σ Q r m) pl.isList ao (by rw[eu]<;>lia) ao (by rw[M];simpa using J) ⟨rfl,fin⟩) L
theorem zt:U0 X (SW X.K):=by
 intro Y slice pins s σ H x y v u Q I O N h M;obtain⟨p,rfl,U⟩:=oZ.mp h;mleft;obtain⟨i,rfl,xs,z,L,J,q⟩:=gC.mp U;mright;cases O;obtain⟨t,rfl⟩:=N;mleft;obtain⟨G,r,pl,hz⟩:=I.tuple L;mright;mleft;obtain⟨j,E,U,A,o,n⟩:=RK J;mright;obtain⟨w,D,T⟩:=r.get U;have C:=r.length;have m:=y4;have fin:EP X pins σ Q w s:=⟨z,H,I,T,q⟩;exact subscriptTail_builtinR (x:=w) pl.typeIs slot_tuple_getitem.lookup
  (getItem_tuple (j:=j) (Q:=λr B=>r=w/\EP X pins σ Q r B) pl ao ao (by rw[eu,<-C];exact E) (by simpa using D) ⟨rfl,fin⟩) M
theorem Tp(Y:List Value)(n j:Nat)(u:Value):Obj.mapSeq (·.setIfInBounds j u) { cls:=.type "list",data:=.seq Y.toArray n }={ cls:=.type "list",data:=.seq (Y.set j u).toArray n }:=by
 simp[Obj.mapSeq]
theorem Inv.lst{pins:bO}{H:Hp}{s:Shared}{p:Addr}{xs:List V}(I:Inv X pins σ H s)(h:H p=some (.lst xs)) :
  ∃(Y:List Value) (n:Nat),Vals xs Y/\s.heap.get? p=some { cls:=.type "list",data:=.seq Y.toArray n }/\xs.length<=sizeLine:=by
 mleft;obtain⟨z,Y,n,r,e⟩:=I.aQ p _ h;mright;exact⟨Y,n,r,e,z⟩
theorem Inv.abP{pins:bO}{H:Hp}{s:Shared}{p:Addr}{xs ys:List V}{Y its':List Value}{n U:Nat}{f:Obj->Obj}(I:Inv X pins σ H s)(h:H p=some (.lst xs))
  (Q:s.heap.get? p=some { cls:=.type "list",data:=.seq Y.toArray n }) (T:f { cls:=.type "list",data:=.seq Y.toArray n }={ cls:=.type "list",data:=.seq its'.toArray U }) (r:Vals ys its') (hz:ys.length<=sizeLine) (t:Nat) :
  Inv X pins σ (upd H p (.lst ys)) { s with heap:=s.heap.update p f,toks:=t }:=by
 have e:(s.heap.update p f).get? p=some { cls:=.type "list",data:=.seq its'.toArray U }:=by
  rw[uO f Q (by rw[T]<;>rfl),T]
 refine I.write (x:=p) (e:=p) (by rw[h];trivial) (.inl rfl) (λb u O q=>(sg _ _ (bq O)).trans q) ⟨_,e⟩ ?_
 exact⟨hz,its',U,r,e⟩
def YF:V->V->V->Hp->(Hp->Prop)->Prop:=λo i v H Q=>∃p xs k j,o=.ref p/\i=.int k/\H p=some (.lst xs)/\Dg xs.length k=some j/\Q (upd H p (.lst (xs.set j v)))
theorem set_list:XY X YF:=by
 intro pins s σ H o i v z y u Q I D C B h;mleft;obtain⟨p,xs,k,j,rfl,rfl,M,A,q⟩:=h;mright;cases D;obtain⟨t,rfl⟩:=C;mleft;obtain⟨Y,n,r,T,hz⟩:=I.lst M;mright;mleft;obtain⟨U,m,L,J⟩:=RP A;mright;have O:=r.length;have l:=y4;have G:Inv X pins σ (upd H p (.lst (xs.set j v))) { s with heap:=s.heap.update p (Obj.mapSeq (·.setIfInBounds j u)) }:=
  I.abP M T (Tp Y n j u) (r.set B j) (by rw[HC];exact hz) s.toks
 by_cases E:0<=k
 .have N:k.toNat=j:=by
   rw[seqIndex_of E J]at U;exact cp U
  exact W.ki_setAt T E ao (by rw[eu,<-O];exact J) (by rw[N];exact⟨_,G,q⟩)
 have N:(k+(Y.toArray.size:Int)).toNat=j:=by
  rw[seqIndex_neg ao L]at U;rw[eu,<-O];exact cp U
 exact W.ki_setBack T ao (by rw[eu,<-O];exact L) ao (by rw[N];exact⟨_,G,q⟩)
theorem PL(lo Y:Option Int)(n:Nat):(sliceBounds lo Y none n).1=((HT.qP n 0 lo:Nat):Int)/\(sliceBounds lo Y none n).2.1=((HT.qP n n Y:Nat):Int)/\(sliceBounds lo Y none n).2.2=1:=by
 refine⟨?_,?_,rfl⟩
 .cases lo with
  |none=>simp[sliceBounds,HT.qP]
  |some i =>
   simp only[sliceBounds,HT.qP,Option.getD_none,show(1:Int)>0 by decide,dB]
   by_cases h:i<0
   .simp only[h,dB]<;>lia
   simp only[h,gA]<;>lia
 cases Y with
 |none=>simp[sliceBounds,HT.qP]
 |some i =>
  simp only[sliceBounds,HT.qP,Option.getD_none,show(1:Int)>0 by decide,dB]
  by_cases h:i<0
  .simp only[h,dB]<;>lia
  simp only[h,gA]<;>lia
theorem Mw(Y:List Value)(lo U:Option Int):slicePick Y.toArray lo U none=((Y.drop (HT.qP Y.length 0 lo)).take (HT.qP Y.length Y.length U - HT.qP Y.length 0 lo)).toArray:=by
 obtain⟨T,Q,O⟩:=PL lo U Y.toArray.size;unfold slicePick;rw[T,Q,O];simp only[sliceRange_one,pick_run,eu]<;>rfl
def acZ(K:W.Frag):V->Option Int->Option Int->Hp->VK->Prop:=λx lo Y H Q=>∃a xs,x=.ref a/\dn K H a xs/\∀p,H p=none->Q (.ref p) (upd H p (.lst (Ka xs lo Y)))
theorem ZX:SlR X (acZ X.K):=by
 intro pins s σ H x v vl G lo U E Q I O N pl M h;mleft;obtain⟨a,xs,rfl,L,q⟩:=h;mright;cases O;mleft;obtain⟨J,r,T,hz⟩:=I.list L;mright;have Y:=r.length;refine⟨"list",_,slot_list_getitem.lookup,T.isList.typeIs,?_⟩;refine wpAny_getItem_list_slice T.isList N pl M .none aP ?_ (by rw[eu]<;>lia)
 rw[Mw,<-Y];refine⟨.ref s.heap.objs.size,_,I.laid (t':=s.toks) (o:=.lst (Ka xs lo U)) (λb D q=>cA _ q) (bD _) ?_,rfl,q _ (I.aQ.fresh (bD _))⟩;exact⟨bT (QU xs lo U) hz,_,0,(r.drop (HT.qP xs.length 0 lo)).take (HT.qP xs.length xs.length U - HT.qP xs.length 0 lo),eR _ rfl⟩
def lA:V->Bool
 |.aX=>true
 |.bl _=>true
 |.int _=>true
 |.str _=>true
 |_=>false
def BC:V->V->Bool
 |.aX,.aX=>true
 |.bl a,.bl b=>a==b
 |.bl a,.int b=>(if a then 1 else 0)==b
 |.int a,.bl b=>a==(if b then 1 else 0)
 |.int a,.int b=>a==b
 |.str a,.str b=>a==b
 |_,_=>false
theorem aba{A:Around}{s:Shared}{y x:V}{u v:Value}(U:RelV y u)(Y:RelV x v)(Q:lA y=true)(T:lA x=true):SeqAt.EqAt A s u v (BC y x):=by
 cases y with
 |aX =>
  cases U;cases x with
  |aX=>cases Y;exact SeqAt.EqAt.same _
  |bl b=>cases Y;exact SeqAt.EqAt.none_bool b
  |int b=>obtain⟨t,rfl⟩:=Y;exact SeqAt.EqAt.none_int b t
  |str b=>obtain⟨t,rfl⟩:=Y;exact SeqAt.EqAt.none_str b t
  |_=>exact absurd (show false=true from T) f9
 |bl a =>
  cases U;cases x with
  |aX=>cases Y;exact SeqAt.EqAt.bool_none a
  |bl b=>cases Y;exact SeqAt.EqAt.bool_bool a b
  |int b=>obtain⟨t,rfl⟩:=Y;exact SeqAt.EqAt.bool_int a b t
  |str b=>obtain⟨t,rfl⟩:=Y;exact SeqAt.EqAt.bool_str a b t
  |_=>exact absurd (show false=true from T) f9
 |int a =>
  obtain⟨t',rfl⟩:=U;cases x with
  |aX=>cases Y;exact SeqAt.EqAt.int_none a t'
  |bl b=>cases Y;exact SeqAt.EqAt.int_bool a t' b
  |int b=>obtain⟨t,rfl⟩:=Y;exact SeqAt.EqAt.int_int a t' b t
  |str b=>obtain⟨t,rfl⟩:=Y;exact SeqAt.EqAt.int_str a t' b t
  |_=>exact absurd (show false=true from T) f9
 |str a =>
  obtain⟨t',rfl⟩:=U;cases x with
  |aX=>cases Y;exact SeqAt.EqAt.str_none a t'
  |bl b=>cases Y;exact SeqAt.EqAt.str_bool a t' b
  |int b=>obtain⟨t,rfl⟩:=Y;exact SeqAt.EqAt.str_int a t' b t
  |str b=>obtain⟨t,rfl⟩:=Y;exact SeqAt.EqAt.str_str a t' b t
  |_=>exact absurd (show false=true from T) f9
 |_=>exact absurd (show false=true from Q) f9
def qT(x:V)(u:Value):Bool:=match u with
 |.none=>BC .aX x
 |.bool b=>BC (.bl b) x
 |.int i _=>BC (.int i) x
 |.str z _=>BC (.str z) x
 |_=>false
theorem OZ{x y:V}{u:Value}(r:RelV y u)(f:lA y=true):qT x u=BC y x:=by
 cases y with
 |aX=>cases r;rfl
 |bl b=>cases r;rfl
 |int i=>obtain⟨t,rfl⟩:=r;rfl
 |str z=>obtain⟨t,rfl⟩:=r;rfl
 |_=>exact absurd (show false=true from f) f9
theorem zk{x:V}:∀{xs:List V} {us:List Value},Vals xs us->xs.all lA=true->us.any (qT x)=xs.any λy=>BC y x
 |_,_,.nil,_=>rfl
 |y::xs,u::us,.cons r t,f=>by
  rw[Hz,gN]at f;rw[vk,vk,OZ r f.1,zk t f.2]
theorem rf{A:Around}{s:Shared}{x:V}{v:Value}(U:RelV x v)(T:lA x=true):∀{xs:List V} {us:List Value},Vals xs us->xs.all lA=true->∀u∈us,SeqAt.EqAt A s u v (qT x u)
 |_,_,.nil,_=>λu Y=>by cases Y
 |y::xs,u::us,.cons r t,f=>λQ Y=>by
  rw[Hz,gN]at f;rcases b0.mp Y with rfl|Y
  .rw[OZ r f.1];exact aba r U f.1 T
  exact rf U T t f.2 Q Y
def Fw(x:V)(xs:List V):Bool:=xs.any λy=>BC y x
def YX(K:W.Frag)(neg:Bool):R2:=λx y H Q=>∃p xs,y=.ref p/\(dn K H p xs\/uN K H p xs)/\lA x=true/\xs.all lA=true/\Q (.bl (if neg then !Fw x xs else Fw x xs)) H
theorem Wy:iy X (compareOp .In) (YX X.K false):=by
 intro pins s σ H x y v u Q I O M h;mleft;obtain⟨p,xs,rfl,U,N,fs,q⟩:=h;mright;cases M;rcases U with U|U
 .mleft;obtain⟨Y,r,pl,hz⟩:=I.list U;mright;refine SeqAt.in_listAt (qT x) pl.isList (λw T=>rf O N r fs w (by simpa using T)) ⟨.bl _,H,I,rfl,?_⟩
  rw[show Y.toArray.any (qT x)=Y.any (qT x)by simp,zk r fs]
  exact q
 mleft;obtain⟨Y,r,pl,hz⟩:=I.tuple U;mright;refine SeqAt.in_tupleAt (qT x) pl (λw T=>rf O N r fs w (by simpa using T)) ⟨.bl _,H,I,rfl,?_⟩
 rw[show Y.toArray.any (qT x)=Y.any (qT x)by simp,zk r fs]
 exact q
theorem Og:iy X (compareOp .NotIn) (YX X.K true):=by
 intro pins s σ H x y v u Q I O M h;mleft;obtain⟨p,xs,rfl,U,N,fs,q⟩:=h;mright;cases M;rcases U with U|U
 .mleft;obtain⟨Y,r,pl,hz⟩:=I.list U;mright;refine SeqAt.notIn_listAt (qT x) pl.isList (λw T=>rf O N r fs w (by simpa using T)) ⟨.bl _,H,I,rfl,?_⟩
  rw[show Y.toArray.any (qT x)=Y.any (qT x)by simp,zk r fs]
  exact q
 mleft;obtain⟨Y,r,pl,hz⟩:=I.tuple U;mright;refine SeqAt.notIn_tupleAt (qT x) pl (λw T=>rf O N r fs w (by simpa using T)) ⟨.bl _,H,I,rfl,?_⟩
 rw[show Y.toArray.any (qT x)=Y.any (qT x)by simp,zk r fs]
 exact q
theorem dP:Es X (.builtin "len") (λxs H Q=>∃p ys,xs=[.ref p]/\(dn X.K H p ys\/uN X.K H p ys)/\Q (.int ys.length) H):=by
 intro pins s σ H xs us Q I r h;mleft;obtain⟨p,ys,rfl,U,q⟩:=h;mright;obtain⟨u,rfl,N⟩:=vals1 r;cases N;have M:=y4;rcases U with U|U
 .mleft;obtain⟨T,O,pl,hz⟩:=I.list U;mright;have Y:=O.length;exact Calls.call_len_list pl.isList (by simp only[eu]<;>lia) ⟨.int ys.length,H,I.tok _,⟨s.toks+1,by rw[eu,Y]⟩,q⟩
 mleft;obtain⟨T,O,pl,hz⟩:=I.tuple U;mright;have Y:=O.length;exact len_tuple pl (by simp only[eu]<;>lia) ⟨.int ys.length,H,I.tok _,⟨s.toks+1,by rw[eu,Y]⟩,q⟩
def ZD(K:W.Frag)(T:String)(x:V)(H:Hp):Prop:=match x with
 |.str _=>T="str"
 |.int _=>T="int"
 |.ref p=>(T="list"/\∃xs,dn K H p xs)\/(T="tuple"/\∃o,K.lookup p=some o/\o.cls=.type "tuple"/\o.dict=none)\/
   (T="dict"/\((∃Y,H p=some (.dK Y))\/∃Y,H p=some (.dT Y)))\/(T="set"/\∃S n,H p=some (.set S n))
 |_=>False
theorem VL{pins:bO}{H:Hp}{s:Shared}{T:String}{x:V}{v:Value}(I:Inv X pins σ H s)(r:RelV x v)(Q:ZD X.K T x H) :
  s.TypeIs v T/\∀a,v=.ref a->∃M,s.heap.get? a=some M/\M.dict=none:=by
 cases x with
 |str z =>
  obtain⟨t,rfl⟩:=r;cases(show T="str" from Q);exact⟨typeIs_str s z t,λ_ e=>nomatch e⟩
 |int i =>
  obtain⟨t,rfl⟩:=r;cases(show T="int" from Q);exact⟨typeIs_int s i t,λ_ e=>nomatch e⟩
 |ref p =>
  cases r;rcases Q with⟨rfl,xs,L⟩|⟨rfl,o,Y,J,hd⟩|⟨rfl,Y⟩|⟨rfl,S,n,Y⟩
  .mleft;obtain⟨G,_,pl,_⟩:=I.list L;mright;refine⟨pl.isList.typeIs,λa e=>?_⟩;cases e;mleft;obtain⟨o,n,e,c,hd,_⟩:=pl;mright;exact⟨o,e,hd⟩
  .refine⟨⟨o,I.gT p o Y,J⟩,λa e=>?_⟩;cases e;exact⟨o,I.gT _ o Y,hd⟩
  .have z:∃o,s.heap.get? p=some o/\o.ExactDict:=by
    rcases Y with⟨O,Y⟩|⟨O,Y⟩
    .mleft;obtain⟨_,_,_,_,o,_,_,e,U,_⟩:=I.aQ p _ Y;mright;exact⟨o,e,U⟩
    mleft;obtain⟨_,_,_,_,o,_,_,e,U,_⟩:=I.aQ p _ Y;mright;exact⟨o,e,U⟩
   obtain⟨o,e,U⟩:=z;refine⟨⟨o,e,U.1⟩,λa N=>?_⟩;cases N;exact⟨o,e,U.2.1⟩
  mleft;obtain⟨o,_,_,_,e,U,_⟩:=I.aQ p _ Y;mright;refine⟨⟨o,e,U.1⟩,λa N=>?_⟩;cases N;exact⟨o,e,U.2.1⟩
 |_=>exact False.elim Q
def abI(K:W.Frag)(T:String)(r:V->List V->Hp->VK->Prop)(Y:TE):TE:=λσ H Q=>Y σ H λx H1=>ZD K T x H1/\r x [] H1 Q
def tBM(K:W.Frag)(T:String)(r:V->List V->Hp->VK->Prop)(Y:TE)(t:TA):TE:=λσ H Q=>Y σ H λx H1=>ZD K T x H1/\t σ H1 λxs U=>r x xs U Q
variable{o e:Expr}{es:List Expr}{to:TE}{t:TA}{name:Str}{apos cpos:Pos}{T id:String}{r:V->List V->Hp->VK->Prop}
theorem VD(G:PlainAttrs T)(O:Slot T name id)(N:typeOf (.builtin id)=pure (.type "method_descriptor"))(E:MtR X id r)(D:PE X o to)
  (Y:attributeBase o name X.env (eval o X.env)=eval o X.env:=by rfl) (U:(apos.endLine==cpos.line)=true:=by rfl):PE X (.Call (.Attribute o name apos) [] [] cpos) (abI X.K T r to):=by
 intro pins s σ H Q I h;refine wpAny_Call_method0_late Y U (aZ (D pins s σ H _ I h) λv C M=>?_);mleft;obtain⟨x,H1,L,J,B,A⟩:=M;mright;obtain⟨z,y⟩:=VL L J B;exact⟨T,id,G,O,N,z,y,Ey rfl (Tw (E pins C σ H1 x [] v [] Q L J .nil A))⟩
theorem lI(C:PlainAttrs T)(N:Slot T name id)(L:typeOf (.builtin id)=pure (.type "method_descriptor"))(B:MtR X id r)(A:PE X o to)(z:PA X (e::es) t)
  (U:attributeBase o name X.env (eval o X.env)=eval o X.env:=by rfl)
  (M:((backTo cpos (starEach (e::es) X.env)).all (λx=>!x.1)&&(backToKw cpos (keywordEach [] X.env)).all (λx=>x.1.isSome)
   && decide ((e::es).length+([]:List Keyword).length+(if ([]:List Keyword).isEmpty then 0 else 1)<30))=true:=by rfl)
  (O:(apos.endLine==cpos.line)=true:=by rfl) (y:starEach (e::es) X.env=(false,eval e X.env)::starEach es X.env:=by rfl) (Y:(backTo cpos (starEach es X.env)).any (·.1)=false:=by rfl) :
  PE X (.Call (.Attribute o name apos) (e::es) [] cpos) (tBM X.K T r to t):=by
 intro pins s σ H Q I h;refine wpAny_Call_method_late U M O rfl (aZ (A pins s σ H _ I h) λv u J=>?_);mleft;obtain⟨x,H1,G,E,q,p⟩:=J;mright;obtain⟨n,m⟩:=VL G E q;refine⟨T,id,C,N,L,n,m,?_⟩;have D:=z cpos pins u σ H1 _ G p;rw[y]at D ⊢;refine Ey (by show(false||(backTo cpos (starEach es X.env)).any (·.1))=false;rw[Y]<;>rfl) (Iz ?_)
 exact aZ D λus l ⟨vs,j,i,g,f⟩=>B pins l σ j x vs v us Q i E g f
end
end
section
def WU(X:Cx)(id:String)(r:V->List V->Hp->VK->Prop):Prop:=
 ∀(pins:bO) (s:Shared) (σ:St) (H:Hp) (x:V) (xs:List V) (v:Value) (us:List Value) (Q:VK),Inv X pins σ H s->RelV x v->Vals xs us->r x xs H Q->
  wpAny (model X.prog X.w) X.A (call (.builtin id) (v::us)) (EP X pins σ Q) X.xe s
theorem Vals.one:∀{x:V} {us:List Value},Vals [x] us->∃u,us=[u]/\RelV x u:=λh=>by
 cases h with
 |cons r h=>cases h;exact⟨_,rfl,r⟩
theorem Vals.zero:∀{us:List Value},Vals [] us->us=[]
 |_,.nil=>rfl
theorem Vals.dropLast{xs:List V}{us:List Value}(h:Vals xs us):Vals xs.dropLast us.dropLast:=by
 induction h with
 |nil=>exact .nil
 |cons r t Y =>
  cases t with
  |nil=>exact .nil
  |cons q t'=>exact .cons r Y
theorem Vals.reverse{xs:List V}{us:List Value}(h:Vals xs us):Vals xs.reverse us.reverse:=by
 induction h with
 |nil=>exact .nil
 |cons r t Y=>rw[List.reverse_cons,List.reverse_cons];exact Vals.append Y (.cons r .nil)
theorem Vals.rep{xs:List V}{us:List Value}(h:Vals xs us):∀k:Nat,Vals (List.replicate k xs).flatten (List.replicate k us).flatten
 |0=>.nil
 |k+1=>by
  rw[OV,OV,M4,M4];exact Vals.append h (Vals.rep h k)
theorem Tj{α:Type}(l:List α):l.eraseIdx (l.length - 1)=l.dropLast:=by
 induction l with
 |nil=>rfl
 |cons a r Y =>
  cases r with
  |nil=>rfl
  |cons b r =>
   have e:(a::b::r).length - 1=((b::r).length - 1)+1:=by
    have U:(a::b::r).length=r.length+2:=rfl;have T:(b::r).length=r.length+1:=rfl;lia
   rw[e,List.eraseIdx_cons_succ,Y];all_goals rfl
theorem foldl_rep(Y:List Value):∀(k:Nat) (acc:List Value),
  List.foldl (λU T=>U++T) acc.toArray (List.replicate k Y.toArray)=(acc++(List.replicate k Y).flatten).toArray
 |0,acc=>by simp
 |k+1,acc=>by
  have e:acc.toArray++Y.toArray=(acc++Y).toArray:=by simp
  have Q:(acc++Y)++(List.replicate k Y).flatten=acc++(List.replicate (k+1) Y).flatten:=by
   rw[OV,M4,rD]
  rw[<-Q,<-foldl_rep Y k (acc++Y),<-e,OV,ng]
section
variable{X:Cx}{pins:bO}{σ:St}{H:Hp}{s:Shared}{l b:Addr}{xs ys zs:List V}
theorem Inv.Pg{Y its':List Value}{n:Nat}{f:Array Value->Array Value}{t':Nat}(I:Inv X pins σ H s)(U:H l=some (.lst xs))
  (e:s.heap.get? l=some { cls:=.type "list",data:=.seq Y.toArray n }) (T:f Y.toArray=its'.toArray) (Q:Vals ys its') (hz:ys.length<=sizeLine) :
  Inv X pins σ (upd H l (.lst ys)) { s with heap:=s.heap.update l (Obj.mapSeq f),toks:=t' }:=by
 have q:=PySem.IsL.update e f;rw[T]at q;refine I.write (x:=l) (e:=l) (by rw[U];exact trivial) (.inl rfl) (λM u O N=>(sg s.heap (Obj.mapSeq f) (bq O)).trans N) ⟨_,q⟩ ?_
 exact⟨hz,its',_,Q,q⟩
theorem Inv.abl{Y:List Value}{t':Nat}(I:Inv X pins σ H s)(U:Vals ys Y)(hz:ys.length<=sizeLine) :
  Inv X pins σ (upd H s.heap.objs.size (.lst ys)) { s with heap:=s.heap.push { cls:=.type "list",data:=.seq Y.toArray },toks:=t' }:=
 I.laid (λ_ _ q=>cA _ q) (bD _) ⟨hz,Y,0,U,eR _ rfl⟩
theorem Inv.fresh(I:Inv X pins σ H s):H s.heap.objs.size=none:=I.aQ.fresh (bD _)
theorem Inv.zZ(I:Inv X pins σ H s)(U:H l=some (.lst xs)):xs.length<=sizeLine/\∃(Y:List Value) (n:Nat),Vals xs Y/\xs.length=Y.length/\s.heap.get? l=some { cls:=.type "list",data:=.seq Y.toArray n }:=by
 mleft;obtain⟨z,Y,n,r,e⟩:=I.aQ l _ U;mright;exact⟨z,Y,n,r,r.length,e⟩
theorem Qc{n:Nat}(h:n<=sizeLine):Builtin.List.listTooLong n=false:=by
 unfold Builtin.List.listTooLong;exact jF ao
end
section
variable{X:Cx}
def Kx:V->List V->Hp->VK->Prop:=λx vs H Q=>∃l xs y,x=.ref l/\vs=[y]/\H l=some (.lst xs)/\xs.length<sizeLine/\Q .aX (upd H l (.lst (xs++[y])))
theorem fJ:WU X "list.append" Kx:=by
 intro pins s σ H x vs v us Q I T O h;mleft;obtain⟨l,xs,y,rfl,rfl,U,hz,q⟩:=h;mright;cases T;obtain⟨u,rfl,N⟩:=O.one;mleft;obtain⟨z,Y,n,r,M,e⟩:=I.zZ U;mright;refine wV F.slot_list_append ⟨_,e,rfl⟩ F.entry_list_append (F.args_list_append_2 _ _) (PySem.list_append l Y.toArray n u (by rw[eu];lia)) ⟨e,?_⟩
 refine⟨.aX,_,I.Pg (its':=Y++[u]) U e aP (r.append (.cons N .nil)) ?_,rfl,q⟩;rw[ee,List.length_singleton];lia
def aaH:V->List V->Hp->VK->Prop:=λx vs H Q=>∃l b xs zs,x=.ref l/\vs=[.ref b]/\H l=some (.lst xs)/\H b=some (.lst zs)/\xs.length+zs.length<=sizeLine/\Q .aX (upd H l (.lst (xs++zs)))
theorem VI:WU X "list.extend" aaH:=by
 intro pins s σ H x vs v us Q I N M h;mleft;obtain⟨l,b,xs,zs,rfl,rfl,O,L,hz,q⟩:=h;mright;cases N;obtain⟨u,rfl,J⟩:=M.one;cases J;mleft;obtain⟨z,U,n,r,B,e⟩:=I.zZ O;mright;mleft;obtain⟨A,Y,G,E,D,C⟩:=I.zZ L;mright;have hsz:U.toArray.size+Y.toArray.size<=sizeLine:=by rw[eu,eu];lia
 have T:¬(!U.toArray.isEmpty&&Builtin.List.listTooLong (U.toArray.size+Y.toArray.size))=true:=by
  rw[Qc hsz,Ni];exact f9
 refine wV F.slot_list_extend ⟨_,e,rfl⟩ F.entry_list_extend (F.args_list_extend_2 _ _)
  (AutoSeq1.list_extend_list_list_0 l U.toArray n b Y.toArray G T (by rw[eu];lia) ao) ⟨e,C,?_⟩
 refine⟨.aX,_,I.Pg (its':=U++Y) O e aP (r.append E) ?_,rfl,q⟩;rw[ee];lia
def ac3:V->List V->Hp->VK->Prop:=λx vs H Q=>∃l xs y,x=.ref l/\vs=[]/\H l=some (.lst xs)/\xs[xs.length - 1]?=some y/\Q y (upd H l (.lst xs.dropLast))
theorem adp:WU X "list.pop" ac3:=by
 intro pins s σ H x vs v us Q I N M h;mleft;obtain⟨l,xs,y,rfl,rfl,O,L,q⟩:=h;mright;cases N;have U:=M.zero;subst U;mleft;obtain⟨z,Y,n,r,J,e⟩:=I.zZ O;mright;obtain⟨u,G,E⟩:=r.get L;have T:Y.toArray[Y.toArray.size - 1]?=some u:=by
  show Y.toArray[Y.length - 1]?=some u;rw[<-Array.getElem?_toList,<-J];exact G
 refine wV F.slot_list_pop ⟨_,e,rfl⟩ F.entry_list_pop (F.args_list_pop_1 _) (MeetsSeq.list_pop_last l Y.toArray n u T (by rw[eu];lia)) ⟨e,?_⟩
 refine⟨y,_,I.Pg (its':=Y.dropLast) O e ?_ r.dropLast ?_,E,q⟩
 .show Y.toArray.eraseIdxIfInBounds (Y.toArray.size - 1)=Y.dropLast.toArray;rw[eu,List.eraseIdxIfInBounds_toArray,Tj]
 rw[List.length_dropLast];lia
def Yy:V->List V->Hp->VK->Prop:=λx vs H Q=>∃l xs,x=.ref l/\vs=[]/\H l=some (.lst xs)/\Q .aX (upd H l (.lst xs.reverse))
theorem TM:WU X "list.reverse" Yy:=by
 intro pins s σ H x vs v us Q I O N h;mleft;obtain⟨l,xs,rfl,rfl,T,q⟩:=h;mright;cases O;have U:=N.zero;subst U;mleft;obtain⟨z,Y,n,r,M,e⟩:=I.zZ T;mright;refine wV F.slot_list_reverse ⟨_,e,rfl⟩ F.entry_list_reverse (F.args_list_reverse_1 _) (AutoSeq1.list_reverse_list_0 l Y.toArray n (by rw[eu];lia)) ⟨e,?_⟩
 refine⟨.aX,_,I.Pg (its':=Y.reverse) T e aP r.reverse ?_,rfl,q⟩;rw[Zu];lia
def abJ:V->List V->Hp->VK->Prop:=λx vs H Q=>∃l xs,x=.ref l/\vs=[]/\H l=some (.lst xs)/\Q .aX (upd H l (.lst []))
theorem WZ:WU X "list.clear" abJ:=by
 intro pins s σ H x vs v us Q I O N h;mleft;obtain⟨l,xs,rfl,rfl,T,q⟩:=h;mright;cases O;have Y:=N.zero;subst Y;mleft;obtain⟨z,U,n,r,M,e⟩:=I.zZ T;mright;refine wV F.slot_list_clear ⟨_,e,rfl⟩ F.entry_list_clear (F.args_list_clear_1 _) (AutoSeq1.list_clear_list_0 l U.toArray n (by rw[eu];lia)) ⟨e,?_⟩
 exact⟨.aX,_,I.Pg (its':=[]) (ys:=[]) T e rfl .nil (dy _),rfl,q⟩
def abG:R2:=λx y H Q=>∃l b xs zs,x=.ref l/\y=.ref b/\H l=some (.lst xs)/\H b=some (.lst zs)/\xs.length+zs.length<=sizeLine/\∀p,H p=none->Q (.ref p) (upd H p (.lst (xs++zs)))
theorem qa:iy X (binaryOp .Add) abG:=by
 intro pins s σ H x y v u Q I T O h;mleft;obtain⟨l,b,xs,zs,rfl,rfl,N,M,hz,q⟩:=h;mright;cases T;cases O;mleft;obtain⟨z,U,n,r,D,e⟩:=I.zZ N;mright;mleft;obtain⟨C,Y,B,L,J,G⟩:=I.zZ M;mright;refine PySem.P.add_list e G ?_ (by rw[eu,eu];lia)
 have E:U.toArray++Y.toArray=(U++Y).toArray:=by simp
 rw[E];exact⟨.ref _,_,I.abl (t':=s.toks) (r.append L) (by rw[ee];lia),rfl,q _ I.fresh⟩
def acU:R2:=λx y H Q=>∃l k xs,x=.ref l/\y=.int k/\H l=some (.lst xs)/\-(2 ^ 63)<=k/\k<2 ^ 63/\xs.length*k.toNat<=sizeLine/\
 ∀p,H p=none->Q (.ref p) (upd H p (.lst (List.replicate k.toNat xs).flatten))
theorem len_rep{α:Type}(xs:List α)(k:Nat):(List.replicate k xs).flatten.length=k*xs.length:=by
 induction k with
 |zero=>simp
 |succ k Y=>rw[OV,M4,ee,Y,Nat.succ_mul,zU]
theorem OR:iy X (binaryOp .Mult) acU:=by
 intro pins s σ H x y v u Q I D C h;mleft;obtain⟨l,k,xs,rfl,rfl,B,A,p,hz,q⟩:=h;mright;cases D;obtain⟨t,rfl⟩:=C;mleft;obtain⟨z,Y,n,r,o,e⟩:=I.zZ B;mright;have N:Y.toArray.size*k.toNat<=sizeLine:=by rw[eu,<-o];exact hz
 have M:¬Y.toArray.size*k.toNat>(2 ^ 63 - 1) / 8:=by
  have:(sizeLine:Nat)<=(2 ^ 63 - 1) / 8:=by decide
  lia
 have L:¬(!Builtin.List.listFitsIndex k)=true:=by
  rw[fitsIndex_both A p];exact f9
 have O:¬Builtin.List.listTooLong (Y.toArray.size*k.toNat)=true:=by
  rw[Qc N];exact f9
 have J:List.foldl (λG E=>G++E) #[] (List.replicate (if Y.toArray.isEmpty=true then 0 else k.toNat) Y.toArray)=(List.replicate k.toNat Y).flatten.toArray:=by
  have j:∀m:Nat,List.foldl (λG E=>G++E) #[] (List.replicate m Y.toArray)=(List.replicate m Y).flatten.toArray:=λm=>by
   have:=foldl_rep Y m [];rw[vn]at this;exact this
  rw[j];cases Y with
  |nil=>simp
  |cons a g=>rw[ae aP]
 refine wpAny_binaryOp_repeat_ref (T:="list") (U:="int") aG ⟨_,e,rfl⟩ (λi=>typeIs_int i k t) noFill_list_mul F.fills_int_mul F.slot_int_rmul repeat_list F.slot_int_index.lookup
  (wV F.slot_int_rmul (typeIs_int s k t) F.entry_int_rmul (F.args_int_rmul_2 _ _) (int___rmul___int_list k t l Y.toArray n)
   ⟨e,rfl,⟨_,e,rfl⟩,wV F.slot_list_mul ⟨_,e,rfl⟩ F.entry_list_mul (F.args_list_mul_2 _ _) (AutoListH.list___mul___list_int_3 l Y.toArray n k t L M O) ⟨e,?_⟩⟩)
 rw[J];exact⟨.ref _,_,I.abl (t':=s.toks) (r.rep k.toNat) (by rw[len_rep,xD];exact hz),rfl,q _ I.fresh⟩
end
section
variable{prog:Program}{w:World}{A:Around}{E:b7}{s:Shared}
set_option maxRecDepth 100000 in
end
end
section
theorem Vals.ints:∀{Y:List Int} {us:List Value},Vals (Y.map V.int) us->IntsAre us Y
 |[],us,h=>by
  rw[qC]at h;cases h;exact IntsAre.nil
 |n::Y,us,h=>by
  rw[bM]at h;cases h with
  |cons r t =>
   obtain⟨k,rfl⟩:=r;exact IntsAre.cons n k (Vals.ints t)
theorem Vals.bls:∀{bs:List Bool} {us:List Value},Vals (bs.map V.bl) us->us=bs.map Value.bool
 |[],us,h=>by
  rw[qC]at h;cases h;rfl
 |b::bs,us,h=>by
  rw[bM]at h;cases h with
  |cons r t =>
   cases r;rw[Vals.bls t,bM]
theorem Vals.Xh{a:Addr}{us:List Value}(r:Vals [V.ref a] us):us=[Value.ref a]:=by
 cases r with
 |cons r t =>
  cases t;cases r;rfl
section
variable{prog:Program}{w:World}{A:Around}{E:b7}{s:Shared}{l:Addr}{its:List Value}{ns:List Int}{Q:b7}
theorem Z6(O:A.handled=none)(Y:s.heap.IsList l its.toArray)(U:IntsAre its ns)
  (h:∀h' tk t',(∀b o,s.heap.get? b=some o->h'.get? b=some o)->Q (.int ns.sum t') { s with heap:=h',toks:=tk }):wpAny (model prog w) A (call (.builtin "sum") [.ref l]) Q E s:=by
 obtain⟨xs,e⟩:=U.allInts.items;have T:numsOf (intItems xs).toList=ns:=by rw[<-e];exact U.numsOf
 rw[nums_intItems]at T;rw[e]at Y;refine PySem.sum_intListG O Y λh' tk t' N=>?_;have:=h h' tk t' N;rw[preSum_eq,CJ aP,T];exact this
end
section
variable{X:Cx}
def ac4(K:W.Frag):List V->Hp->VK->Prop:=λvs H Q=>∃(a:Addr) (Y:List Int),vs=[V.ref a]/\dn K H a (Y.map V.int)/\Q (.int Y.sum) H
theorem abr(Y:X.calm=true):Es X (.builtin "sum") (ac4 X.K):=by
 intro pins s σ H vs us Q I r h;mleft;obtain⟨a,L,rfl,U,q⟩:=h;mright;mleft;obtain⟨T,O,N,_⟩:=I.list U;mright;rw[Vals.Xh r];exact Z6 (I.ok.hd Y) N.isList O.ints λh' tk t' M=>⟨.int _,H,I.kept M,⟨_,rfl⟩,q⟩
end
theorem PQ{prog:Program}{w:World}{A:Around}{E:b7}{s:Shared}{l:Addr}{items:Array Value}{Q:b7}(U:s.heap.IsList l items)
  (h:∀Y:Shared,Y={ s with heap:=s.heap.push { cls:=.type "list_iterator",data:=.fields #[.ref l,.int 0 0] } }->
   (Y.heap.IsListIter s.heap.objs.size l 0/\Y.heap.IsList l items)->l≠s.heap.objs.size->Q (.ref s.heap.objs.size) Y):wpAny (model prog w) A (pyIter (.ref l)) Q E s:=by
 have T:l<s.heap.objs.size:=by obtain⟨_,e,_⟩:=U;exact bV e
 exact wpAny_pyIter_list U (h _ rfl ⟨⟨_,eR _ rfl,rfl,rfl⟩,U.push _⟩ (fZ T))
theorem Ff{prog:Program}{w:World}{A:Around}{bs:List Bool}{Y:List Value}(e:Y=bs.map Value.bool) :
  TruthOf prog w A (λi v=>Y.toArray[i]?=some v) (λi=>bs.getD i false):=λi v s Q E O N=>by
 have U:Y[i]?=some v:=by simpa using O
 rw[e,cM]at U;obtain⟨b,M,rfl⟩:=lM.mp U;have L:bs.getD i false=b:=by rw[dU,M]<;>rfl
 have T:Q (bs.getD i false) s:=N;rw[L]at T;exact EX T
theorem any_range:∀bs:List Bool,(List.range bs.length).any (λi=>bs.getD i false)=bs.any id
 |[]=>rfl
 |b::bs=>by
  rw[cT,NM,vk,M9,vk,<-any_range bs];all_goals rfl
theorem all_range:∀bs:List Bool,(List.range bs.length).all (λi=>bs.getD i false)=bs.all id
 |[]=>rfl
 |b::bs=>by
  rw[cT,NM,Hz,AH,Hz,<-all_range bs];all_goals rfl
section
variable{X:Cx}
def ade(K:W.Frag):List V->Hp->VK->Prop:=λvs H Q=>∃(a:Addr) (bs:List Bool),vs=[V.ref a]/\dn K H a (bs.map V.bl)/\Q (.bl (bs.any id)) H
def ac6(K:W.Frag):List V->Hp->VK->Prop:=λvs H Q=>∃(a:Addr) (bs:List Bool),vs=[V.ref a]/\dn K H a (bs.map V.bl)/\Q (.bl (bs.all id)) H
theorem VQ(L:X.calm=true):Es X (.builtin "any") (ade X.K):=by
 intro pins s σ H vs us Q I r h;mleft;obtain⟨a,bs,rfl,J,q⟩:=h;mright;mleft;obtain⟨U,G,E,_⟩:=I.list J;mright;rw[Vals.Xh r];have O:=G.bls;refine call_any_walk (PQ E.isList λN D st T=>?_);subst D;refine⟨_,_,_,_,_,_,_,rfl,Walks.list (A:=X.A.in1) (I.ok.hd L) _ a T U.toArray,st,Ff O,λh' tk C=>?_⟩;refine⟨.bl _,H,I.kept λb o M=>C b o (λY=>?_) (cA _ M),?_,q⟩
 .rcases b0.mp Y with B|Y
  .exact absurd (B▸bV M) (uo _)
  cases Y
 show Value.bool _=Value.bool _;rw[<-any_range,O,eu,bG]
theorem OC(L:X.calm=true):Es X (.builtin "all") (ac6 X.K):=by
 intro pins s σ H vs us Q I r h;mleft;obtain⟨a,bs,rfl,J,q⟩:=h;mright;mleft;obtain⟨U,G,E,_⟩:=I.list J;mright;rw[Vals.Xh r];have O:=G.bls;refine call_all_walk (PQ E.isList λN D st T=>?_);subst D;refine⟨_,_,_,_,_,_,_,rfl,Walks.list (A:=X.A.in1) (I.ok.hd L) _ a T U.toArray,st,Ff O,λh' tk C=>?_⟩;refine⟨.bl _,H,I.kept λb o M=>C b o (λY=>?_) (cA _ M),?_,q⟩
 .rcases b0.mp Y with B|Y
  .exact absurd (B▸bV M) (uo _)
  cases Y
 show Value.bool _=Value.bool _;rw[<-all_range,O,eu,bG]
end
end
section
variable{scope:Scope}{elt iter tg:Expr}{pos:Pos}{tt:TT}{te:TE}{σ:St}{ifs:List Expr}{env:Env}{wi:TI}
abbrev Vg(h:Heap)(c:Addr)(v:Option Value):Prop:=h.IsCell c v
def acP(scope Y:Scope):Scope:=
 { scope with names:=scope.names.map λ(n,k)=>if (k==.free&&Y.kind==.function&&Y.names.lookup n==some .cell)then(n,.cell)else(n,k) }
def cR(cells:List (Str×Addr)):List (Str×NameKind)->List (Str×Addr)->List (Str×Addr)
 |[],acc=>acc
 |(n,k)::r,acc=>if k==.free then cR cells r ((n,(cells.lookup n).getD 0)::acc)else cR cells r acc
theorem DP(env:Env)(f:Str×NameKind->List (Str×Addr)->Sem (ForInStep (List (Str×Addr))))
  (U:∀n k c,f (n,k) c=if k==.free then(do let a <-cellOf env n;pure (.yield ((n,a)::c)))else pure (.yield c)) :
  ∀(names:List (Str×NameKind)) (acc:List (Str×Addr)),(∀y∈names,y.2=.free->∃c,env.cells.lookup y.1=some c)->forIn names acc f=pure (cR env.cells names acc)
 |[],acc,_=>by rw[S1];rfl
 |(n,k)::r,acc,h=>by
  rw[List.forIn_cons,U];have T:=λacc=>DP env f U r acc λy O=>h y (cF _ O);unfold cR;by_cases Y:(k==NameKind.free)=true
  .rw[ag Y,ag Y];obtain⟨c,Q⟩:=h (n,k) df (by simpa using Y)
   have e:cellOf env n=pure c:=by unfold cellOf;rw[Q]
   rw[e];have N:(env.cells.lookup n).getD 0=c:=by rw[Q];rfl
   rw[N];exact T _
  rw[ae Y,ae Y];exact T _
theorem Iw(h:∀y∈scope.names,y.2=.free->∃c,env.cells.lookup y.1=some c):closureFor scope env=pure (cR env.cells scope.names []):=by
 simp only[closureFor];rw[DP env _ (λn k c=>rfl) scope.names [] h];rfl
theorem mem_lookup{α:Type}:∀{l:List (Str×α)} {n:Str} {c:α},(n,c)∈l->∃Y,l.lookup n=some Y
 |(k,v)::r,n,c,h=>by
  rw[Gj];cases U:n==k with
  |true=>exact⟨_,rfl⟩
  |false =>
   rcases b0.mp h with e|h
   .cases e;simp at U
   exact mem_lookup h
theorem se{cells:List (Str×Addr)}:∀{names:List (Str×NameKind)} {acc:List (Str×Addr)} {n:Str} {c:Addr},(n,c)∈cR cells names acc->(n,c)∈acc\/((n,.free)∈names/\c=(cells.lookup n).getD 0)
 |[],_,_,_,h=>.inl h
 |(m,k)::r,acc,n,c,h=>by
  unfold cR at h;split at h
  .rename_i Y;have Y:k=.free:=by simpa using Y
   rcases se h with h|⟨U,T⟩
   .rcases b0.mp h with e|h
    .cases e;exact .inr ⟨Y▸df,rfl⟩
    exact .inl h
   exact .inr ⟨cF _ U,T⟩
  rcases se h with h|⟨U,T⟩
  .exact .inl h
  exact .inr ⟨cF _ U,T⟩
theorem xR{cells:List (Str×Addr)}:∀{names:List (Str×NameKind)} {acc:List (Str×Addr)} {p:Str×Addr},p∈acc->p∈cR cells names acc
 |[],_,_,h=>h
 |(m,k)::r,acc,p,h=>by
  unfold cR;split
  .exact xR (cF _ h)
  exact xR h
theorem xH{cells:List (Str×Addr)}:∀{names:List (Str×NameKind)} {acc:List (Str×Addr)} {n:Str},(n,.free)∈names->(n,(cells.lookup n).getD 0)∈cR cells names acc
 |(m,k)::r,acc,n,h=>by
  unfold cR;rcases b0.mp h with e|h
  .cases e;exact xR df
  split
  .exact xH h
  exact xH h
theorem sP:∀{names:List (Str×NameKind)} {h:Heap} {acc:List (Str×Addr)} {x:Str} {c:Addr},(x,c)∈cellsFrom h.objs.size names acc->
  (x,c)∈acc\/((x,.cell)∈names/\h.objs.size<=c/\Vg (pushCells h names) c none)
 |[],_,_,_,_,h=>.inl h
 |(n,k)::r,h,acc,x,c,Y=>by
  unfold cellsFrom at Y;unfold pushCells;split at Y
  .rename_i U;rw[ag U];have U:k=.cell:=by simpa using U
   rw[<-lJ h { cls:=.type "cell",data:=.cell none }]at Y;rcases sP Y with Y|⟨Q,T,O⟩
   .rcases b0.mp Y with e|Y
    .cases e;exact .inr ⟨U▸df,bD _,_,Ia r _ _ _ (eR _ rfl),rfl⟩
    exact .inl Y
   rw[lJ]at T;exact .inr ⟨cF _ Q,NS T,O⟩
  rename_i U;rw[ae U];rcases sP Y with Y|⟨Q,T,O⟩
  .exact .inl Y
  exact .inr ⟨cF _ Q,T,O⟩
theorem xm:∀{names:List (Str×NameKind)} {n:Nat} {acc:List (Str×Addr)} {p:Str×Addr},p∈acc->p∈cellsFrom n names acc
 |[],_,_,_,h=>h
 |(m,k)::r,n,acc,p,h=>by
  unfold cellsFrom;split
  .exact xm (cF _ h)
  exact xm h
theorem DH:∀{names:List (Str×NameKind)} {n:Nat} {acc:List (Str×Addr)} {x:Str},(x,.cell)∈names->∃c,(x,c)∈cellsFrom n names acc
 |(m,k)::r,n,acc,x,h=>by
  unfold cellsFrom;rcases b0.mp h with e|h
  .cases e;exact⟨n,xm df⟩
  split
  .exact DH h
  exact DH h
theorem Ed:∀{names:List (Str×NameKind)} {h:Heap} {acc:List (Str×Addr)} {x y:Str} {c:Addr},(∀p∈acc,p.2<h.objs.size)->(∀x y c,(x,c)∈acc->(y,c)∈acc->x=y)->
  (x,c)∈cellsFrom h.objs.size names acc->(y,c)∈cellsFrom h.objs.size names acc->x=y
 |[],_,_,_,_,_,_,T,U,Y=>T _ _ _ U Y
 |(n,k)::r,h,acc,x,y,c,Q,T,U,Y=>by
  unfold cellsFrom at U Y;split at U
  .rename_i O;rw[ag O]at Y;rw[<-lJ h { cls:=.type "cell",data:=.cell none }]at U Y;refine Ed (h:=h.push _) (λp N=>?_) (λx y c a b=>?_) U Y
   .rw[lJ];rcases b0.mp N with rfl|N
    .exact Nd _
    exact NK (Q p N)
   rcases b0.mp a with e|a<;>rcases b0.mp b with M|b
   .cases e;cases M;rfl
   .cases e;exact absurd (Q _ b) (uo _)
   .cases M;exact absurd (Q _ a) (uo _)
   exact T _ _ _ a b
  rename_i O;rw[ae O]at Y;exact Ed Q T U Y
theorem FX{M:Model}{A:Around}{E:b7}{s:Shared}{globals:Addr}{Y:List (Str×Addr)}{T:Str}{O:Option Addr}{code:Value}{U:Env}{builtins:Addr}{Q:Env->Shared->Prop}
  (h:Q (newEnv scope s.heap.objs.size globals (cellsFrom (s.heap.objs.size+1) scope.names Y) T O code (some U) builtins)
   { s with heap:=pushCells (s.heap.push { cls:=.type "dict",data:=.dict #[] }) scope.names }) :
  wpAny M A (newFunctionEnv scope globals Y [] T O code (some U) builtins) Q E s:=by
 simp only[newFunctionEnv,ZA,dB];refine aA (wpAny_alloc ?_);refine aA (wpAny_layCells _ (λn k c=>rfl) scope.names Y _ _ ?_);rw[show({ s with heap:=s.heap.push { cls:=.type "dict",data:=.dict #[] } }:Shared).heap.objs.size=s.heap.objs.size+1 from lJ ..]
 rw[S1];exact aA (bf (bf h))
theorem yz{U:Scope}:∀{names:List (Str×NameKind)} {x:Str} {k:NameKind},
  (names.map λ(n,k)=>if (k==NameKind.free&&U.kind==.function&&U.names.lookup n==some .cell)then(n,NameKind.cell)else(n,k)).lookup x=some k->
  ∃O,names.lookup x=some O/\(k=O\/(O=.free/\k=.cell))
 |[],_,_,h=>by simp at h
 |(n,Y)::r,x,k,h=>by
  have N:=@yz U r x k;have h':List.lookup x ((if (Y==NameKind.free&&U.kind==.function&&U.names.lookup n==some .cell)=true then(n,NameKind.cell)else(n,Y))::(r.map _))=some k:=h
  cases Q:x==n with
  |true =>
   simp only[Gj,Q];by_cases T:(Y==NameKind.free&&U.kind==.function&&U.names.lookup n==some .cell)=true
   .rw[ag T]at h';simp only[Gj,Q]at h';cases h';simp only[gN,lK]at T;exact⟨Y,rfl,.inr ⟨T.1.1,rfl⟩⟩
   rw[ae T]at h';simp only[Gj,Q]at h';cases h';exact⟨_,rfl,.inl rfl⟩
  |false =>
   simp only[Gj,Q];by_cases T:(Y==NameKind.free&&U.kind==.function&&U.names.lookup n==some .cell)=true
   .rw[ag T]at h';simp only[Gj,Q]at h';exact N h'
   rw[ae T]at h';simp only[Gj,Q]at h';exact N h'
structure xf(N:List Str)(sc scope:Scope)(own:List (Str×Nat)):Prop where
 kind:scope.kind=.function
 uniq:∀y∈scope.names,scope.names.lookup y.1=some y.2
 ix:∀p∈own,N[p.2]?=some p.1
 free:∀y∈scope.names,y.2=.free->sc.names.lookup y.1=some .cell\/sc.names.lookup y.1=some .free
 own:∀y∈scope.names,y.2=.local\/y.2=.cell->y.1∈own.map (·.1)\/y.1∉N
def wipe(σ:St):List Nat->St
 |[]=>σ
 |v::vs=>(wipe σ vs).set v none
theorem su(σ:St):∀vs:List Nat,(wipe σ vs).length=σ.length
 |[]=>rfl
 |v::vs=>by unfold wipe;rw[HC,su σ vs]
theorem w8{i:Nat}{x:V}:∀{vs:List Nat},(wipe σ vs)[i]?=some (some x)->σ[i]?=some (some x)/\i∉vs
 |[],h=>⟨h,by simp⟩
 |v::vs,h=>by
  unfold wipe at h;by_cases Y:v=i
  .subst Y;by_cases U:v<(wipe σ vs).length
   .rw[Bs U]at h;cases h
   rw[nz (by simpa using U)]at h;cases h
  rw[G5 Y]at h;obtain⟨T,Q⟩:=w8 h;exact⟨T,by simp only[b0,not_or];exact⟨λe=>Y e.symm,Q⟩⟩
abbrev Cx.gc(X:Cx)(s:Shared)(H:Hp)(scope:Scope)(Y:Env)(U:List Addr):Cx:={ X with m7:=s,Pb:=H,env:=Y,outer:=X.stack,ex:=U,fn:=λx=>scope.names.lookup x==some .cell,pn:=[],xe:=λ_ _=>False }
section
variable{X:Cx}{pins:bO}{σ:St}{H:Hp}{s:Shared}
theorem Fz{own:List (Str×Nat)}{fp:List Addr}(I:Inv X pins σ H s)(ok:xf X.N X.env.scope scope own)(hN:X.N.Nodup)(O:∀b∈fp,oX X pins H b/\b<s.heap.objs.size) :
  Inv (X.gc s H scope (compEnvC scope (cellsFrom (s.heap.objs.size+1) scope.names (cR X.env.cells scope.names [])) s.heap.objs.size X.env) fp) [] (wipe σ (own.map (·.2))) H { s with heap:=pushCells (s.heap.push { cls:=.type "dict",data:=.dict #[] }) scope.names }:=by
 have l:∀y∈scope.names,y.2=.free->∃c,X.env.cells.lookup y.1=some c:=λy E e=>by
  rcases ok.free y E e with k|k
  .exact I.ok.has _ (.inl k)
  exact I.ok.has _ (.inr k)
 generalize U:compEnvC scope (cellsFrom (s.heap.objs.size+1) scope.names (cR X.env.cells scope.names [])) s.heap.objs.size X.env=Y;have kp:∀b o,s.heap.get? b=some o->(pushCells (s.heap.push { cls:=.type "dict",data:=.dict #[] }) scope.names).get? b=some o:=λb o e=>Ia _ _ _ _ (cA _ e);have hL:Y.locals=s.heap.objs.size:=by rw[<-U];rfl
 have Q:Y.cells=cellsFrom (s.heap.objs.size+1) scope.names (cR X.env.cells scope.names []):=by rw[<-U];rfl
 have j:Y.scope=acP scope X.env.scope:=by rw[<-U];rfl
 rw[<-lJ s.heap { cls:=.type "dict",data:=.dict #[] }]at Q;have cm:∀{y c},(y,c)∈cR X.env.cells scope.names []->X.env.cells.lookup y=some c/\c<s.heap.objs.size:=λ{y c} M=>by
  rcases se M with M|⟨T,rfl⟩
  .cases M
  obtain⟨c,hc⟩:=l _ T rfl;rw[hc];obtain⟨w,z⟩:=I.cell _ _ hc;exact⟨rfl,z.lt⟩
 have g:∀{y c},Y.cells.lookup y=some c->(X.env.cells.lookup y=some c/\c<s.heap.objs.size)\/(s.heap.objs.size+1<=c/\Vg (pushCells (s.heap.push { cls:=.type "dict",data:=.dict #[] }) scope.names) c none):=λ{y c} e=>by
  rw[Q]at e;rcases sP (ku e)with M|⟨_,D,h3⟩
  .exact .inl (cm M)
  rw[lJ]at D;exact .inr ⟨D,h3⟩
 have look:∀{y},scope.names.lookup y=some .free->∃c,Y.cells.lookup y=some c/\X.env.cells.lookup y=some c:=λ{y} hl=>by
  have E:(y,NameKind.free)∈scope.names:=ku hl;obtain⟨c',L⟩:=mem_lookup (xm (names:=scope.names) (n:=(s.heap.push { cls:=.type "dict",data:=.dict #[] }).objs.size) (xH (cells:=X.env.cells) (acc:=[]) E));rw[<-Q]at L;refine⟨c',L,?_⟩;rw[Q]at L;rcases sP (ku L)with M|⟨T,_,_⟩
  .exact(cm M).1
  have:=ok.uniq _ T;rw[hl]at this;cases this
 have am:(X.gc s H scope Y fp).Ok:=by
  refine⟨I.ok.mod,by show Y.scope.kind=_;rw[j];exact ok.kind,by show Y.globals=_;rw[<-U];exact I.ok.glob,by show Y.builtins=_;rw[<-U];exact I.ok.blt,by show s.heap.objs.size<=Y.locals;rw[hL];exact bD _,
   λy z c B A=>?_,λy E=>?_,λy c z e=>?_,I.ok.hd,I.ok.frames,.inl rfl,λb v=>⟨?_,λy c e z=>?_⟩,I.bs,bT I.ok.BW I.sz,λb o e v=>?_,λb v z=>?_,I.stack,I.J4⟩
  .have B:Y.cells.lookup y=some c:=B;have A:Y.cells.lookup z=some c:=A;rw[Q]at B A;refine Ed (λp hp=>?_) (λy z c a b=>I.ok.inj y z c (cm a).1 (cm b).1) (ku B) (ku A);rw[lJ];exact NK (cm (y:=p.1) (c:=p.2) hp).2
  .show ∃c,Y.cells.lookup y=some c;have J:∀k,Y.kindOf y=some k->(k=.cell\/k=.free)->∃c,Y.cells.lookup y=some c:=λk f d=>by
    unfold Env.kindOf at f;rw[j]at f;obtain⟨u,e,r⟩:=yz f;have:u=.cell\/u=.free:=by
     rcases r with rfl|⟨rfl,_⟩
     .exact d
     exact .inr rfl
    rcases this with rfl|rfl
    .obtain⟨c,M⟩:=DH (n:=(s.heap.push { cls:=.type "dict",data:=.dict #[] }).objs.size) (acc:=cR X.env.cells scope.names []) (ku e);obtain⟨c',L⟩:=mem_lookup M;exact⟨c',by rw[Q];exact L⟩
    obtain⟨c,T,_⟩:=look e;exact⟨c,T⟩
   rcases E with E|E
   .exact J _ E (.inl rfl)
   exact J _ E (.inr rfl)
  .have z:(scope.names.lookup y==some NameKind.cell)=true:=z;have z:scope.names.lookup y=some .cell:=by simpa using z
   have e:Y.cells.lookup y=some c:=e;rw[Q]at e;rcases sP (ku e)with M|⟨_,D,_⟩
   .rcases se M with M|⟨T,_⟩
    .cases M
    have q:=ok.uniq _ T;rw[z]at q;cases q
   rw[lJ]at D;exact NS D
  .show b≠Y.locals;rw[hL];exact fZ (O b v).2
  .have e:Y.cells.lookup y=some c:=e;rcases g e with⟨T,_⟩|⟨T,_⟩
   .exact(O b v).1.2.2.2.2.1 y c T z
   have D:s.heap.objs.size+1<=b:=by rw[<-z];exact T
   exact absurd (eE (O b v).2 (NS D)) (uo _)
  .rcases(O b v).1.2.2.2.1 with z|z
   .exact I.ok.GJ b o e z
   exact absurd (eE (bV e) (bT I.ok.BW z)) (uo _)
  rcases b0.mp (I.Qw b z)with z|z
  .exact(O b v).1.2.1 z
  exact(O b v).1.2.2.1 z
 refine⟨am,rfl,I.bare,Un.kept kp,⟨λ_=>none,?_,λi y av B A G=>?_⟩,λy c e=>?_,?_,λy c e=>?_,λp hp=>?_,I.aQ.kept kp,by rw[su];exact I.len⟩
 .show Heap.Ns _ Y.locals _;rw[hL];exact Heap.Ns.keeps (Heap.Ns.new ..) λb o e=>Ia _ _ _ _ e
 .obtain⟨A,an⟩:=w8 A;have C:scope.names.lookup y=some .free/\(Y.kindOf y=some .cell\/Y.kindOf y=some .free):=by
   have J:∀k,Y.scope.names.lookup y=some k->k=.local\/k=.cell\/k=.free->scope.names.lookup y=some .free/\(Y.kindOf y=some .cell\/Y.kindOf y=some .free):=λk f d=>by
    have ab:=f;rw[j]at f;obtain⟨u,e,r⟩:=yz f;have no:¬(u=.local\/u=.cell):=λhh=>by
     rcases ok.own _ (ku e) hh with L|L
     .obtain⟨p,hp,ap⟩:=bS.mp L;have G:=ok.ix p hp;have:p.1=y:=ap;rw[this]at G;exact an (bS.mpr ⟨p,hp,F9 hN G B⟩)
     exact L (cI B)
    rcases r with rfl|⟨rfl,rfl⟩
    .rcases d with rfl|rfl|rfl
     .exact absurd (.inl rfl) no
     .exact absurd (.inr rfl) no
     exact⟨e,.inr ab⟩
    exact⟨e,.inl ab⟩
   have G:RH Y.scope y:=G;rcases G with G|G|G
   .exact J _ G (.inl rfl)
   .exact J _ G (.inr (.inl rfl))
   exact J _ G (.inr (.inr rfl))
  obtain⟨m,hn,hl⟩:=I.loc;have al:RH X.env.scope y:=(ok.free _ (ku C.1) rfl).elim (λk=>.inr (.inl k)) (λk=>.inr (.inr k));obtain⟨w,r,q⟩:=hl i y av B A al;refine⟨w,r,.inr ⟨C.2,?_⟩⟩;obtain⟨c,T,D⟩:=look C.1;rcases q with⟨k,_⟩|⟨_,c',L,z⟩
  .have k:X.env.scope.names.lookup y=some .local:=k;rcases ok.free _ (ku C.1) rfl with u|u<;>rw[show X.env.scope.names.lookup y=_ from u]at k<;>cases k
  rw[D]at L;cases L;exact⟨c,T,z.keeps kp⟩
 .have e:Y.cells.lookup y=some c:=e;rcases g e with⟨T,_⟩|⟨_,z⟩
  .obtain⟨w,z⟩:=I.cell y c T;exact⟨w,z.keeps kp⟩
  exact⟨_,z⟩
 .show H Y.locals=none;rw[hL];exact I.aQ.fresh (bD _)
 .have e:Y.cells.lookup y=some c:=e;rcases g e with⟨T,_⟩|⟨T,_⟩
  .exact I.g7 y c T
  exact I.aQ.fresh (NS T)
 exact absurd (show p∈([]:bO)++[]from hp) aP
theorem Wv{E:b7}{D:Addr}{xs:List V}{y:V}{v:Value}{Q:b7}(I:Inv X pins σ H s)(T:H D=some (.lst xs))(hz:xs.length<sizeLine)(r:RelV y v)
  (h:∀O,Inv X pins σ (upd H D (.lst (xs++[y]))) O->Q .none O):wpAny (model X.prog X.w) X.A (call (.builtin "list.append") [.ref D,v]) Q E s:=by
 mleft;obtain⟨M,U,n,N,e⟩:=I.aQ D _ T;mright;have G:=N.length;refine append_at (hsz:=by rw[eu];lia) e λh' L Y=>?_
 refine h { s with heap:=h' } (I.write (t':=s.toks) (by rw[T];trivial) (.inl rfl) (λb u J q=>(L.2 b J).trans q) ⟨_,Y⟩ ⟨by rw[ee];exact hz,U++[v],n+1,N.append (.cons r .nil),?_⟩)
 rw[Y];simp
def LY(X:Cx)(ifs:List Expr)(t:TT):Prop:=
 ∀(pins:bO) (s:Shared) (σ:St) (H:Hp) (Q:Bool->Hp->Prop),Inv X pins σ H s->t σ H Q->
  wpAny (model X.prog X.w) X.A (forIn ifs true λc r=>if r=true then do let ok <-isTrue c X.env (eval c X.env);pure (ForInStep.yield ok)else pure (ForInStep.yield r)) (TP X pins σ Q) X.xe s
def Ts:TT:=λ_ H Q=>Q true H
theorem cW:LY X [] Ts:=λ_ _ _ H _ I h=>wpAny_tests_nil ⟨H,I,h⟩
theorem J7{c:Expr}{t:TT}(h:PT X c t):LY X [c] t:=λpins s σ H Q I Y=>wpAny_tests_one (h pins s σ H Q I Y)
end
theorem vN{α:Type}{t:Sem α}{Q Y:α->Shared->Prop}{M:Model}{A:Around}{E:b7}{s:Shared}(h:wpAny M A t Q (λ_ _=>False) s)(U:∀a s,Q a s->Y a s):wpAny M A t Y E s:=i5 h U λ_ _ z=>False.elim z
theorem CU{prog:Program}{w:World}{A:Around}{R:Result->Shared->Prop}{s:Shared}{Y:Expr}{z acc:Value}(I:Nat->Shared->Prop)
  (E:∀n s,I n s->wpAny (model prog w) A (pyNext z) (λr U=>match r with
   |none=>R (.ok .next) U
   | some v=>wpAny (model prog w) A (letOwnedTupleGo Y z v) (fun _ T=>wpAny (model prog w) A (assign Y env v) (fun _ N =>
     wpAny (model prog w) A (forIn ifs true λc r=>if r=true then do let ok <-isTrue c env (eval c env);pure (ForInStep.yield ok)else pure (ForInStep.yield r)) (λok Q =>
      if ok=true then wpAny (model prog w) A (eval elt env) (λx M =>
       wpAny (model prog w) A (call (.builtin "list.append") [acc,x]) (λ_ L=>∃m,m<n/\I m L) (notedBy (model prog w) A env λe O=>R (.error e) O) M) (notedBy (model prog w) A env λe O=>R (.error e) O) Q
      else ∃m,m<n/\I m Q) (notedBy (model prog w) A env λe O=>R (.error e) O) N) (notedBy (model prog w) A env λe O=>R (.error e) O) T) (notedBy (model prog w) A env λe O=>R (.error e) O) U) (notedBy (model prog w) A env λe O=>R (.error e) O) s)
  (n:Nat) (h:I n s) :
  codeAny (model prog w) A (.compLoop (.ListComp elt [⟨Y,iter,ifs,0⟩] scope pos) 0 z acc env) R s:=by
 refine codeAny_loop rfl I (λn s y=>?_) n h;show wpAny _ A ((compTurn (.ListComp elt [⟨Y,iter,ifs,0⟩] scope pos) 0 z acc env).onRaise (λx=>do noteFrame x env;theTreesLotGoes x)) _ _ s
 refine wpAny_noted ?_;rw[compTurn_list];refine aA (AS (aA (i5 (E n s y) (λr U J=>?_) λ_ _ h'=>h')));cases r with
 |none=>exact bf J
 |some v =>
  refine aA (i5 J (λ_ T G=>?_) λ_ _ h'=>h');refine aA (i5 G (λ_ N D=>aA (i5 D (λok Q H=>?_) λ_ _ h'=>h')) λ_ _ h'=>h');cases ok with
  |false=>exact bf ⟨rfl,H⟩
  |true =>
   exact aA (aA (i5 H (λx M C=>aA (i5 C (λ_ L B=>bf (bf ⟨rfl,B⟩)) λ_ _ h'=>h')) λ_ _ h'=>h'))
section
variable{X:Cx}
def vV(wi:TI)(g:TG)(tt:TT)(te:TE)(vs:List Nat):TE:=λσ H Q=>wi σ H λJ H1=>∀D,H1 D=none->∃W:Nat->Nat->Hp->Prop,(∃m,W 0 m (upd H1 D (.lst [])))/\∀i m H,W i m H->
 (J.stop i H/\Q (.ref D) H)\/(J.go i H/\∃T:Hp->Prop,(∀U,T U->∃O,O<m/\W (i+1) O U)/\∀x U,J.IE i H x U->g x (wipe σ vs) U λY L=>wipe Y vs=wipe σ vs/\tt Y L λb N =>
  if b=true then te Y N λy M=>∃acc,M D=some (.lst acc)/\acc.length<sizeLine/\T (upd M D (.lst (acc++[y])))else T N)
theorem RG{pins:bO}{s:Shared}{H:Hp}{Q:VK}{own:List (Str×Nat)}{al:Pos}{g:TG}{use:Option (Value->Sem Unit)}{Qf:b7}
  (hc:X.calm=true) (hN:X.N.Nodup) (I:Inv X pins σ H s) (hi:PI X tg iter wi) (ok:xf X.N X.env.scope scope own)
  (hg:∀(s:Shared) (H:Hp) (C:Addr) (cl:List (Str×Addr)) (Y:List Addr),PG (X.gc s H scope (compEnvC scope cl C X.env) Y) tg g) (ht:∀(s:Shared) (H:Hp) (C:Addr) (cl:List (Str×Addr)) (Y:List Addr),LY (X.gc s H scope (compEnvC scope cl C X.env) Y) ifs tt)
  (he:∀(s:Shared) (H:Hp) (C:Addr) (cl:List (Str×Addr)) (Y:List Addr),PE (X.gc s H scope (compEnvC scope cl C X.env) Y) elt te) (hs:∀x,foldedSetIterable iter X.env x=pure x)
  (h:vV wi g tt te (own.map (·.2)) σ H Q)
  (a5:∀D C M m H',Inv X pins σ H' M->Q (.ref D) H'->M.heap.Ns C m->oX X pins H' C->compPost (model X.prog X.w) X.A X.xe use Qf (.ref D) C (.ok .next) M) :
  wpAny (model X.prog X.w) X.A (comprehension (.ListComp elt [⟨tg,iter,ifs,0⟩] scope pos) scope X.env al (newList []) false (eval iter X.env) use) Qf X.xe s:=by
 have a:∀y∈scope.names,y.2=.free->∃c,X.env.cells.lookup y.1=some c:=λy hy e=>by
  rcases ok.free y hy e with k|k
  .exact I.ok.has _ (.inl k)
  exact I.ok.has _ (.inr k)
 refine wpAny_comprehension_free (use:=use) rfl hs (Iw a) ok.kind (λy hy e=>by rw[ok.uniq y hy,e])
  (aZ (hi pins s σ H _ I h) λxv s1 hx=>aZ hx λbi s2 h2=>?_)
 mleft;obtain⟨it,Y,tn,J,l,e,I2,T,am,f2,q⟩:=h2;mright;subst e;refine z8 (FX ?_) (by show 0<=sizeLine;decide)
 generalize hD:s2.heap.objs.size=D;have a6:l D=none:=I2.aQ.fresh (yA hD);mleft;obtain⟨W,⟨m0,w0⟩,an⟩:=q D a6;mright;generalize ap:({ s2 with heap:=s2.heap.push { cls:=.type "list",data:=.seq ([]:List Value).toArray } }:Shared)=s3
 have I3:Inv X pins σ (upd l D (.lst [])) s3:=by
  rw[<-ap];refine I2.laid (t':=s2.toks) (λb o e=>cA _ e) (yA hD) ⟨dy _,[],0,.nil,?_⟩;rw[<-hD];exact eR _ rfl
 have h3:s3.heap=s2.heap.push { cls:=.type "list",data:=.seq ([]:List Value).toArray }:=by rw[<-ap]
 have sz:∀b∈Y,b<s2.heap.objs.size:=λb U=>by
  obtain⟨o,e,_⟩:=T.obj _ _ am b U;exact bV e
 have f3:∀b∈Y,oX X pins (upd l D (.lst [])) b/\b<s3.heap.objs.size:=λb U=>by
  have ar:=sz b U;refine⟨⟨?_,(f2 b U).2⟩,by rw[h3,lJ];exact NK ar⟩
  rw[aj (by rw[<-hD];exact fZ ar)]
  exact(f2 b U).1
 have a7:tn 0 s3.heap:=T.keep _ _ _ am λb _ o e=>by rw[h3];exact cA _ e
 have I4:=Fz I3 ok hN f3;have pg:=hg s3 (upd l D (.lst [])) s3.heap.objs.size (cellsFrom (s3.heap.objs.size+1) scope.names (cR X.env.cells scope.names [])) Y;have pt:=ht s3 (upd l D (.lst [])) s3.heap.objs.size (cellsFrom (s3.heap.objs.size+1) scope.names (cR X.env.cells scope.names [])) Y;have pe:=he s3 (upd l D (.lst [])) s3.heap.objs.size (cellsFrom (s3.heap.objs.size+1) scope.names (cR X.env.cells scope.names [])) Y;show codeAny _ _ (.compStart (.ListComp elt [⟨tg,iter,ifs,0⟩] scope pos) 0 (.ref it) (.ref D) (compEnvC scope (cellsFrom (s3.heap.objs.size+1) scope.names (cR X.env.cells scope.names [])) s3.heap.objs.size X.env)) (compPost (model X.prog X.w) X.A X.xe use Qf (.ref D) s3.heap.objs.size) { s3 with heap:=pushCells (s3.heap.push { cls:=.type "dict",data:=.dict #[] }) scope.names }
 have av:∀b∈Y,(upd l D (.lst [])) b=none:=λb U=>(f3 b U).1.1;generalize a8:compEnvC scope (cellsFrom (s3.heap.objs.size+1) scope.names (cR X.env.cells scope.names [])) s3.heap.objs.size X.env=L at I4 pg pt pe ⊢;have cL:L.locals=s3.heap.objs.size:=by subst a8;rfl
 generalize bl:upd l D (.lst [])=E at I3 I4 pg pt pe w0 av f3;generalize a9:({ s3 with heap:=pushCells (s3.heap.push { cls:=.type "dict",data:=.dict #[] }) scope.names }:Shared)=s4 at I4 ⊢
 have aL:tn 0 s4.heap:=T.keep _ _ _ a7 λb _ o e=>by rw[<-a9];exact Ia _ _ _ _ (cA _ e)
 have G:∀{a0:St} {H':Hp} {M:Shared},Inv (X.gc s3 E scope L Y) [] a0 H' M->(∀b∈Y,H' b=none)->∀b∈Y,oX (X.gc s3 E scope L Y) [] H' b:=λ{a0 H' M} I' hn b U =>
  ⟨hn b U,(I'.ok.Lc b U).1,I'.ok.Dz b U,.inl U,λx c e=>(I'.ok.Lc b U).2 x c e,λp hp=>absurd (show p∈([]:bO)++[]from hp) aP⟩
 have f:codeAny (model X.prog X.w) X.A (.compLoop (.ListComp elt [⟨tg,iter,ifs,0⟩] scope pos) 0 (.ref it) (.ref D) L) (compPost (model X.prog X.w) X.A X.xe use Qf (.ref D) s3.heap.objs.size) s4:=by
  refine CU (λn M=>∃i H',Inv (X.gc s3 E scope L Y) [] (wipe σ (own.map (·.2))) H' M/\tn i M.heap/\(∀b∈Y,H' b=none)/\W i n H') ?_ m0 ⟨0,E,I4,aL,av,w0⟩;rintro n s5 ⟨i,H5,I5,a1,n5,w5⟩;rcases an i n H5 w5 with⟨stop,qq⟩|⟨go,Nx,ba,step⟩
  .have td:=T.done (X.gc s3 E scope L Y) rfl rfl rfl hc i [] s5 _ H5 (λ_ _=>False) I5 (G I5 n5) a1 stop;refine vN td λr s6 O=>?_;obtain⟨hr,I6⟩:=O;subst hr;have I7:Inv X pins σ H5 s6:=I3.Nl (ch:=Y) I6.os I6.base I6.aQ I6.bare λb U=>⟨(f3 b U).1.2.2.2.1,(f3 b U).1.2.1,(f3 b U).1.2.2.2.2.1,(f3 b U).1.2.2.2.2.2⟩;have nC:H5 s3.heap.objs.size=none:=by
    have z:H5 L.locals=none:=I6.free;rw[cL]at z;exact z
   obtain⟨m,hn,_⟩:=I6.loc;have hn:s6.heap.Ns L.locals m:=hn;rw[cL]at hn;exact a5 D s3.heap.objs.size s6 m H5 I7 qq hn (I3.Gw (bD _) nC)
  have ti:=T.item (X.gc s3 E scope L Y) rfl rfl rfl hc i [] s5 _ H5 (λ_ _=>False) I5 (G I5 n5) a1 go;refine vN ti λr s6 O=>?_;obtain⟨u,hr,h6⟩:=O;subst hr;refine vN h6 λ_ s7 O=>?_;mleft;obtain⟨x,H7,I7,r7,y7,ab,n7⟩:=O;mright;have bb:=I7.pinned (G I7 n7) (T.obj _ _ ab);refine vN (pg _ s7 _ H7 x u _ bb r7 (step x H7 y7)) λ_ s8 O=>?_;mleft;obtain⟨B,H8,I8,a2,q8⟩:=O;mright;refine vN (pt _ s8 B H8 _ I8 q8) λb s9 O=>?_;obtain⟨H9,I9,q9⟩:=O;have fin:∀{M:Shared} {H':Hp},Inv (X.gc s3 E scope L Y) ([]++zG Y s7.heap) B H' M->Nx H'->∃m,m<n/\∃i H',Inv (X.gc s3 E scope L Y) [] (wipe σ (own.map (·.2))) H' M/\tn i M.heap/\(∀b∈Y,H' b=none)/\W i m H':=λ{M H'} I' nx=>by
   obtain⟨m',hm,w'⟩:=ba H' nx;have d:∀b∈Y,∀o,s7.heap.get? b=some o->M.heap.get? b=some o/\H' b=none:=λb U o e =>
    let z:=I'.pin (b,o) (um _ (um _ (uY U e)))
    ⟨z.1,z.2.1⟩
   have hl:(wipe σ (own.map (·.2))).length=B.length:=by rw[<-a2,su]
   refine⟨m',hm,i+1,H',(I'.wd (pins:=[])).weak hl (λj v e=>?_),T.keep _ _ _ ab λb U o e=>(d b U o e).1,λb U=>?_,w'⟩
   .rw[<-a2]at e;exact(w8 e).1
   obtain⟨o,e,_⟩:=T.obj _ _ ab b U;exact(d b U o e).2
  cases b with
  |false =>
   simp only[oN,gA]at q9 ⊢;exact fin I9 q9
  |true =>
   simp only[dB]at q9 ⊢;refine vN (pe _ s9 B H9 _ I9 q9) λz bm O=>?_;mleft;obtain⟨yv,bn,bc,bd,acc,a3,a4,nx⟩:=O;mright;exact Wv (X:=X.gc s3 E scope L Y) bc a3 a4 bd λbr be=>fin be nx
 exact codeAny_compStart_list f (T.self X.A 0 _ _ _ aL f)
theorem iX{own:List (Str×Nat)}{g:TG}(U:X.calm=true)(T:X.N.Nodup)(O:PI X tg iter wi)(ok:xf X.N X.env.scope scope own)
  (M:∀(s:Shared) (H:Hp) (C:Addr) (cl:List (Str×Addr)) (Y:List Addr),PG (X.gc s H scope (compEnvC scope cl C X.env) Y) tg g) (L:∀(s:Shared) (H:Hp) (C:Addr) (cl:List (Str×Addr)) (Y:List Addr),LY (X.gc s H scope (compEnvC scope cl C X.env) Y) ifs tt)
  (J:∀(s:Shared) (H:Hp) (C:Addr) (cl:List (Str×Addr)) (Y:List Addr),PE (X.gc s H scope (compEnvC scope cl C X.env) Y) elt te) (G:∀x,foldedSetIterable iter X.env x=pure x:=by intro _;rfl) :
  PE X (.ListComp elt [⟨tg,iter,ifs,0⟩] scope pos) (vV wi g tt te (own.map (·.2))):=by
 intro pins s σ H Q I h;rw[eval_ListComp];refine RG U T I O ok M L J G h λD C E m B A q z f=>⟨m,z,λy v=>?_⟩;mleft;obtain⟨u,r,i,p,n,l⟩:=f;mright;exact⟨.ref D,B,A.turned (t':=E.toks) (λb o j e=>(v.2 b j).trans e) u r p n l,rfl,q⟩
theorem ka{i:Nat}{y:Str}{Q:Pos}{own:List (Str×Nat)}{Y:Pos}{g:TG}(p:X.calm=true)(B:X.N.Nodup)(n:X.N[i]?=some y)(U:X.env.scope.names.lookup y=some .local)
  (O:swapsWith (.ListComp elt [⟨tg,iter,ifs,0⟩] scope pos) (some (.Name y Q)) Y.line X.env=pure true) (l:PI X tg iter wi) (ok:xf X.N X.env.scope scope own)
  (j:∀(s:Shared) (H:Hp) (C:Addr) (cl:List (Str×Addr)) (T:List Addr),PG (X.gc s H scope (compEnvC scope cl C X.env) T) tg g) (d:∀(s:Shared) (H:Hp) (C:Addr) (cl:List (Str×Addr)) (T:List Addr),LY (X.gc s H scope (compEnvC scope cl C X.env) T) ifs tt)
  (c:∀(s:Shared) (H:Hp) (C:Addr) (cl:List (Str×Addr)) (T:List Addr),PE (X.gc s H scope (compEnvC scope cl C X.env) T) elt te) (hs:∀x,foldedSetIterable iter X.env x=pure x:=by intro _;rfl) :
  PS X (.Assign [.Name y Q] (.ListComp elt [⟨tg,iter,ifs,0⟩] scope pos) Y) (Kc (vV wi g tt te (own.map (·.2))) (fi i)):=by
 intro pins s σ H D I h;rw[exec_Assign_Name_used _ _ _ _ O];refine aA (AS (aA ?_));show wpAny _ X.A (do let _ <-comprehension (.ListComp elt [⟨tg,iter,ifs,0⟩] scope pos) scope X.env (firstIterPos [⟨tg,iter,ifs,0⟩] pos) (newList []) false (eval iter X.env) (some (assign (.Name y Q) X.env))) _ _ s
 have h:vV wi g tt te (own.map (·.2)) σ H (λx H1=>fi i x σ H1 D.nx):=h;refine aA (aZ (RG (Qf:=λ_ M=>SP X pins D .next M) p B I l ok j d c hs h λL C M m H' I' q hn f=>?_) λ_ M hq=>bf (bf hq));show wpAny _ _ (assign (.Name y Q) X.env (.ref L)) _ _ _;refine UU (DM (v:=V.ref L) I' B n (.inl U) rfl (λs2 I2 J=>?_) (.inr U));obtain⟨a,sb,ha⟩:=J;mleft;obtain⟨f0,u,f2,f3,r,f5⟩:=f;mright;have G:C≠a:=by
  rcases ha with z|z
  .rw[z];exact u
  exact λe=>r y a z e.symm
 refine⟨m,hn.sameBut sb G,λh3 E=>?_⟩;exact⟨_,H',I2.turned (t':=s2.toks) (λb o hb e=>(E.2 b hb).trans e) f0 u f3 r f5,q⟩
theorem kU{gs:List Comprehension}{Y:Pos}{y:Str}{l:Nat}(U:env.scope.kind=.function)(T:env.scope.names.lookup y=some .local)(Q:(Y.line==pos.line)=true)
  (O:(scope.names.any λ(n,k)=>n==y&&(k==.local||k==.cell))=false):swapsWith (.ListComp elt gs scope pos) (some (.Name y Y)) l env=pure true:=by
 have N:env.kindOf y=some .local:=T;have M:env.blockKind=.function:=by unfold Env.blockKind;rw[U];rfl
 unfold swapsWith;simp only[M,N,O,Expr.pos,Q];rfl
end
theorem Pf{lo:Int}{n:Nat}{g:TG}{vs:List Nat}{H1:Hp}{D:Addr}{L:Hp->Prop}(Pv:Nat->Hp->Prop)(I:Pv 0 (upd H1 D (.lst [])))
  (G:∀i H,i<n->Pv i H->g (.int (lo+i)) (wipe σ vs) H λY N=>wipe Y vs=wipe σ vs/\tt Y N λb Q =>
   if b=true then te Y Q λy O=>∃acc,O D=some (.lst acc)/\acc.length<sizeLine/\Pv (i+1) (upd O D (.lst (acc++[y])))else Pv (i+1) Q) (hd:∀H,Pv n H->L H) :
  ∃W:Nat->Nat->Hp->Prop,(∃m,W 0 m (upd H1 D (.lst [])))/\∀i m H,W i m H->
   ((FG lo n).stop i H/\L H)\/((FG lo n).go i H/\∃M:Hp->Prop,(∀U,M U->∃J,J<m/\W (i+1) J U)/\∀x U,(FG lo n).IE i H x U->g x (wipe σ vs) U λY N=>wipe Y vs=wipe σ vs/\tt Y N λb Q =>
    if b=true then te Y Q λy O=>∃acc,O D=some (.lst acc)/\acc.length<sizeLine/\M (upd O D (.lst (acc++[y])))else M Q):=by
 refine⟨λi m H=>m=n - i/\i<=n/\Pv i H,⟨n,by simp,dy _,I⟩,?_⟩
 rintro i m H ⟨rfl,C,p⟩;by_cases T:i<n
 .refine .inr ⟨T,Pv (i+1),λU E=>⟨n - (i+1),ao,rfl,T,E⟩,λx U y=>?_⟩;obtain⟨e,y⟩:=y;subst e y;exact G i _ T p
 have e:i=n:=by lia
 subst e;exact .inl ⟨bD _,hd H p⟩
theorem ZS{K:W.Frag}{a:Addr}{xs:List V}{g:TG}{vs:List Nat}{H1:Hp}{D:Addr}{L:Hp->Prop}(Pv:Nat->Hp->Prop)(I:Pv 0 (upd H1 D (.lst [])))(G:∀i H,i<=xs.length->Pv i H->dn K H a xs)
  (E:∀i x H,xs[i]?=some x->Pv i H->g x (wipe σ vs) H λY N=>wipe Y vs=wipe σ vs/\tt Y N λb T =>
   if b=true then te Y T λy Q=>∃acc,Q D=some (.lst acc)/\acc.length<sizeLine/\Pv (i+1) (upd Q D (.lst (acc++[y])))else Pv (i+1) T) (hd:∀H,Pv xs.length H->L H) :
  ∃W:Nat->Nat->Hp->Prop,(∃m,W 0 m (upd H1 D (.lst [])))/\∀i m H,W i m H->
   ((Lj K a).stop i H/\L H)\/((Lj K a).go i H/\∃M:Hp->Prop,(∀U,M U->∃J,J<m/\W (i+1) J U)/\∀x U,(Lj K a).IE i H x U->g x (wipe σ vs) U λY N=>wipe Y vs=wipe σ vs/\tt Y N λb T =>
    if b=true then te Y T λy Q=>∃acc,Q D=some (.lst acc)/\acc.length<sizeLine/\M (upd Q D (.lst (acc++[y])))else M T):=by
 refine⟨λi m H=>m=xs.length - i/\i<=xs.length/\Pv i H,⟨xs.length,by simp,dy _,I⟩,?_⟩
 rintro i m H ⟨rfl,C,p⟩;have q:=G i H C p;by_cases O:i<xs.length
 .refine .inr ⟨⟨xs,xs[i],q,by simp[O]⟩,Pv (i+1),λU B=>⟨xs.length - (i+1),ao,rfl,O,B⟩,λx U y=>?_⟩
  obtain⟨e,y⟩:=y;subst e;exact E i x _ (y xs q) p
 have e:i=xs.length:=by lia
 subst e;exact .inl ⟨⟨xs,q,bD _⟩,hd H p⟩
def abj(N:List Str)(Y scope:Scope)(own:List (Str×Nat)):Bool:=
 (match scope.kind with|.function=>true|_=>false)&&(scope.names.all λy=>decide (scope.names.lookup y.1=some y.2))&&(own.all λp=>decide (N[p.2]?=some p.1)) &&
  (scope.names.all λy=>match y.2 with
   |.free=>(match Y.names.lookup y.1 with|some .cell=>true|some .free=>true|_=>false)
   |.local=>decide (y.1∈own.map (·.1))||decide (y.1∉N)
   |.cell=>decide (y.1∈own.map (·.1))||decide (y.1∉N)
   | _=>true)
theorem b6{N:List Str}{U:Scope}{own:List (Str×Nat)}(h:abj N U scope own=true):xf N U scope own:=by
 unfold abj at h;simp only[gN,jV,dI]at h;mleft;obtain⟨⟨⟨T,O⟩,M⟩,Q⟩:=h;mright;refine⟨?_,O,M,λy Y e=>?_,λy Y e=>?_⟩
 .split at T
  .assumption
  cases T
 .have q:=Q y Y;simp only[e]at q;split at q<;>first|exact .inl (by assumption)|exact .inr (by assumption)|cases q
 have q:=Q y Y;rcases e with e|e<;>(simp only[e,CA,dI]at q;exact q)
end
section
variable{H':Hp}{pos:Pos}
section
variable{κ:Type}[DecidableEq κ]
def eU(Y:List (κ×V))(k:κ):Option V:=(Y.find? λU=>decide (U.1=k)).map (·.2)
def putK(Y:List (κ×V))(k:κ)(v:V):List (κ×V):=
 if (Y.any λU=>decide (U.1=k))=true then Y.map (λU=>if U.1=k then(U.1,v)else U)else Y++[(k,v)]
def gh(Y:List (κ×V))(k:κ):List (κ×V):=Y.filter λU=>decide (U.1≠k)
theorem AY{p:κ×V}{r:List (κ×V)}{k:κ}(e:p.1=k):eU (p::r) k=some p.2:=by simp[eU,GZ,e]
theorem Au{p:κ×V}{r:List (κ×V)}{k:κ}(e:¬p.1=k):eU (p::r) k=eU r k:=by simp[eU,GZ,e]
theorem Ai(k:κ):∀Y:List (κ×V),(Y.any λU=>decide (U.1=k))=(eU Y k).isSome
 |[]=>rfl
 |p::r=>by
  rw[vk];by_cases e:p.1=k
  .simp only[AY e,wQ e,Bool.true_or,ZA]
  rw[Au e,jF e,Np];exact Ai k r
theorem yB(Y:List (κ×V))(k:κ)(v:V):(putK Y k v).length<=Y.length+1:=by
 unfold putK;split
 .rw[bG];lia
 rw[ee,cT,oH];lia
theorem Xi{Y:List (κ×V)}{k:κ}(v:V)(h:eU Y k=none):putK Y k v=Y++[(k,v)]:=by
 unfold putK;rw[Ai,h];exact ae aG
theorem mD.Vz{o:Option V}{u:Option Value}(r:mD o u):o.isSome=u.isSome:=by
 cases o with
 |none=>cases u with
  |none=>rfl
  |some _=>exact(show False from r).elim
 |some _=>cases u with
  |none=>exact(show False from r).elim
  |some _=>rfl
theorem mD.getD{o:Option V}{u:Option Value}{d:V}{d':Value}(r:mD o u)(Y:RelV d d'):RelV (o.getD d) (u.getD d'):=by
 cases o with
 |none=>cases u with
  |none=>exact Y
  |some _=>exact(show False from r).elim
 |some _=>cases u with
  |none=>exact(show False from r).elim
  |some _=>exact r
theorem KV.val{Y:List (κ×V)}{vs:List (κ×Value)}(r:KV Y vs)(k:κ):mD (eU Y k) (valueAt vs k):=by
 unfold KV at r
 induction r with
 |nil=>exact True.intro
 |@cons p q ps U h t O =>
  obtain⟨Q,N⟩:=h;by_cases e:p.1=k
  .have T:q.1=k:=Q.symm.trans e;have b:valueAt (q::U) k=some q.2:=by simp[valueAt,GZ,T]
   rw[AY e,b];exact N
  have T:¬q.1=k:=λz=>e (Q.trans z);have b:valueAt (q::U) k=valueAt U k:=by simp[valueAt,GZ,T]
  rw[Au e,b];exact O
theorem KV.any{Y:List (κ×V)}{vs:List (κ×Value)}(r:KV Y vs)(k:κ):(Y.any λU=>decide (U.1=k))=vs.any λU=>decide (U.1=k):=by
 unfold KV at r
 induction r with
 |nil=>rfl
 |cons h t T=>rw[vk,vk,T,h.1]
theorem KV.X0{U:List (κ×V)}{vs:List (κ×Value)}(r:KV U vs)(k:κ){y:V}{u:Value}(Q:RelV y u) :
  KV (U.map λY=>if Y.1=k then(Y.1,y)else Y) (vs.map λY=>if Y.1=k then(Y.1,u)else Y):=by
 unfold KV at r ⊢
 induction r with
 |nil=>exact .nil
 |@cons p q ps M h t O =>
  rw[bM,bM];refine .cons ?_ O;obtain⟨T,N⟩:=h;by_cases e:p.1=k
  .rw[ag e,ag (T.symm.trans e)];exact⟨T,Q⟩
  rw[ae e,ae (λz=>e (T.trans z))];exact⟨T,N⟩
theorem KV.put{Y:List (κ×V)}{vs:List (κ×Value)}(r:KV Y vs)(k:κ){y:V}{u:Value}(U:RelV y u):KV (putK Y k y) (stored vs k u):=by
 unfold putK stored;rw[r.any k];by_cases e:(vs.any λT=>decide (T.1=k))=true
 .rw[ag e,ag e];exact r.X0 k U
 rw[ae e,ae e];exact Paired.snoc r ⟨rfl,U⟩
theorem KV.length{Y:List (κ×V)}{vs:List (κ×Value)}(r:KV Y vs):Y.length=vs.length:=mO r
theorem XZ(Y:List (κ×V))(k:κ):(gh Y k).length<=Y.length:=GL _ _
end
theorem JY{P:Program}{w:World}{k:Key}{u:Value}(r:RelV (kV k) u):(cX P w).is k u=true:=by
 cases k with
 |inl i=>obtain⟨t,e⟩:=(show ∃t,u=Value.int i t from r);subst e;exact QM P w i t
 |inr x=>obtain⟨t,e⟩:=(show ∃t,u=Value.str x t from r);subst e;exact Q5 P w x t
theorem Lm{P:Program}{w:World}:∀{Y:List Key} {us:List Value},Vals (Y.map kV) us->ItemsAre (cX P w) Y us
 |[],_,r=>by rw[qC]at r;cases r;exact .nil
 |k::Y,_,r=>by
  rw[bM]at r;cases r with
  |cons h t=>exact .cons (JY h) (Lm t)
abbrev KT(H:Hp):List (List Key×V)->List (List Key×Addr×Value)->Prop:=Paired λp q=>p.1=q.1/\H q.2.1=some (.tup (p.1.map kV))/\RelV p.2 q.2.2
theorem KT.val{H:Hp}{Y:List (List Key×V)}{xs:List (List Key×Addr×Value)}(r:KT H Y xs)(k:List Key):mD (eU Y k) ((atKey xs k).map (·.2)):=by
 induction r with
 |nil=>exact True.intro
 |@cons p q ps U h t O =>
  obtain⟨Q,_,N⟩:=h;by_cases e:p.1=k
  .have T:q.1=k:=Q.symm.trans e;have b:atKey (q::U) k=some q.2:=by simp[atKey,GZ,T]
   rw[AY e,b];exact N
  have T:¬q.1=k:=λz=>e (Q.trans z);have b:atKey (q::U) k=atKey U k:=by simp[atKey,GZ,T]
  rw[Au e,b];exact O
theorem KT.X0{H:Hp}{Y:List (List Key×V)}{xs:List (List Key×Addr×Value)}(r:KT H Y xs)(k:List Key){y:V}{u:Value}(O:RelV y u) :
  KT H (Y.map λT=>if T.1=k then(T.1,y)else T) (xs.map (putAt k u)):=by
 induction r with
 |nil=>exact .nil
 |@cons p q ps L h t N =>
  rw[bM,bM];refine .cons ?_ N;obtain⟨U,Q,M⟩:=h;unfold putAt;by_cases e:p.1=k
  .rw[ag e,ag (U.symm.trans e)];exact⟨U,Q,O⟩
  rw[ae e,ae (λz=>e (U.trans z))];exact⟨U,Q,M⟩
theorem KT.put{H:Hp}{Y:List (List Key×V)}{xs:List (List Key×Addr×Value)}(r:KT H Y xs)(k:List Key){b:Addr}{y:V}{u:Value}(T:H b=some (.tup (k.map kV)))(U:RelV y u) :
  KT H (putK Y k y) (storedH xs k b u):=by
 have e:(Y.any λQ=>decide (Q.1=k))=(atKey xs k).isSome:=by
  rw[Ai,(r.val k).Vz,Option.isSome_map]
 unfold putK storedH;rw[e];by_cases q:(atKey xs k).isSome=true
 .rw[ag q,ag q];exact r.X0 k U
 rw[ae q,ae q];exact Paired.snoc r ⟨rfl,T,U⟩
theorem KT.keeps{H:Hp}{Y:List (List Key×V)}{xs:List (List Key×Addr×Value)}(r:KT H Y xs)(U:∀b ys,H b=some (.tup ys)->H' b=some (.tup ys)):KT H' Y xs:=
 Paired.Ti r λ_ _ z=>⟨z.1,U _ _ z.2.1,z.2.2⟩
section
variable{P:Program}{w:World}{H:Hp}{h:Heap}{a:Addr}
theorem Zo{u:HO}(ok:fH P w H h)(e:Rd H a u):dH P w H h a u:=e.ok ok
theorem N3{Y:List (Key×V)}(ok:fH P w H h)(e:Rd H a (.dK Y)):Y.length<=sizeLine/\(a==sysModules)=false/\∃vs,KV Y vs/\h.DictOf (cX P w) a vs:=
 show dH P w H h a (.dK Y)from Zo ok e
theorem NI{Y:List (Key×V)}(ok:fH P w H h)(e:H a=some (.dK Y)):Y.length<=sizeLine/\(a==sysModules)=false/\∃vs,KV Y vs/\h.DictOf (cX P w) a vs:=N3 ok (.inl e)
theorem zy{Y:List Key}(ok:fH P w H h)(e:H a=some (.tup (Y.map kV))):(tupleKind (cX P w)).is h Y a:=by
 mleft;obtain⟨_,U,r,o,T,Q,n,O⟩:=(show dH P w H h a (.tup (Y.map kV))from ok a _ e);mright;exact⟨o,U.toArray,n,T,Q,O,by simpa using Lm r⟩
theorem NV{Y:List (List Key×V)}(ok:fH P w H h)(e:Rd H a (.dT Y)):Y.length<=sizeLine/\(a==sysModules)=false/\
  ∃xs,KT H Y xs/\h.DictOfH (tupleKind (cX P w)) a xs:=by
 mleft;obtain⟨z,y,xs,r,o,Q,O,N,M,L,J,I⟩:=(show dH P w H h a (.dT Y)from Zo ok e);mright;refine⟨z,y,xs,r,o,Q,O,N,M,L,J,λx U=>?_,I⟩;have all:∀{l:List (List Key×V)} {m:List (List Key×Addr×Value)},KT H l m->∀x∈m,(tupleKind (cX P w)).is h x.1 x.2.1:=by
  intro l m q
  induction q with
  |nil=>intro x U;exact nomatch U
  |@cons p q ps E T t G =>
   intro x U;rcases b0.mp U with e|U
   .subst e;exact zy ok (by rw[<-T.1];exact T.2.1)
   exact G x U
 exact all r x U
theorem S4{Y:List (List Key×V)}(ok:fH P w H h)(e:H a=some (.dT Y)):Y.length<=sizeLine/\(a==sysModules)=false/\
  ∃xs,KT H Y xs/\h.DictOfH (tupleKind (cX P w)) a xs:=NV ok (.inl e)
end
def oz(H:Hp)(a:Addr)(y:V)(r:Option V):Prop:=
 (∃Y k,Rd H a (.dK Y)/\y=kV k/\r=eU Y k)\/∃Y k b,Rd H a (.dT Y)/\y=.ref b/\H b=some (.tup (k.map kV))/\r=eU Y k
def mE(H:Hp)(a:Addr)(y v:V)(H':Hp):Prop:=
 (∃Y k,H a=some (.dK Y)/\y=kV k/\Y.length<sizeLine/\H'=upd H a (.dK (putK Y k v)))\/
 ∃Y k b,H a=some (.dT Y)/\y=.ref b/\H b=some (.tup (k.map kV))/\Y.length<sizeLine/\H'=upd H a (.dT (putK Y k v))
theorem oz.k{H:Hp}{a:Addr}{Y:List (Key×V)}{k:Key}(e:H a=some (.dK Y)):oz H a (kV k) (eU Y k):=.inl ⟨Y,k,.inl e,rfl,rfl⟩
theorem oz.t{H:Hp}{a b:Addr}{Y:List (List Key×V)}{k:List Key}(e:H a=some (.dT Y))(U:H b=some (.tup (k.map kV))):oz H a (.ref b) (eU Y k):=.inr ⟨Y,k,b,.inl e,rfl,U,rfl⟩
theorem mE.k{H:Hp}{a:Addr}{Y:List (Key×V)}{k:Key}{v:V}(e:H a=some (.dK Y))(U:Y.length<sizeLine):mE H a (kV k) v (upd H a (.dK (putK Y k v))):=.inl ⟨Y,k,e,rfl,U,rfl⟩
theorem mE.t{H:Hp}{a b:Addr}{Y:List (List Key×V)}{k:List Key}{v:V}(e:H a=some (.dT Y))(U:H b=some (.tup (k.map kV)))(T:Y.length<sizeLine) :
  mE H a (.ref b) v (upd H a (.dT (putK Y k v))):=.inr ⟨Y,k,b,e,rfl,U,T,rfl⟩
section
variable{X:Cx}{pins:bO}{σ:St}{H:Hp}{s:Shared}{a:Addr}{y v:V}{u r:Value}{o:Option V}{A:Around}{E:b7}
theorem Inv.big(I:Inv X pins σ H s):sysModules<s.heap.objs.size:=by
 have h:mainGlobals<s.heap.objs.size:=(I.mod.glob.keeps I.bk).lt;exact Nat.lt_trans aG h
theorem u9{h':Heap}{t':Nat}{Y:HO}(I:Inv X pins σ H s)(T:LA (H a))(Q:Heap.SameBut a s.heap h')(O:∃q,h'.get? a=some q)(U:dH X.prog X.w (upd H a Y) h' a Y) :
  Inv X pins σ (upd H a Y) { s with heap:=h',toks:=t' }:=
 I.write (x:=a) (e:=a) T (.inl rfl) (λb q N z=>(Q.2 b N).trans z) O U
theorem Om{P:Program}{w:World}{h':Heap}{Y:List (Key×V)}{vs:List (Key×Value)}(z:Y.length<=sizeLine)(hd:(a==sysModules)=false)(U:KV Y vs)(T:h'.DictOf (cX P w) a vs) :
  dH P w H' h' a (.dK Y):=⟨z,hd,vs,U,T⟩
theorem VO{Q:Unit->Shared->Prop}(n:A.units+1<cLine)(I:Inv X pins σ H s)(g:mE H a y v H')(D:RelV y u)(C:RelV v r)(h:∀B,Inv X pins σ H' B->Q () B) :
  wpAny (model X.prog X.w) A (setItem (.ref a) u r) Q E s:=by
 rcases g with⟨Y,k,e,N,l,M⟩|⟨Y,k,b,e,N,p,l,M⟩
 .subst N M;mleft;obtain⟨z,hd,vs,U,L⟩:=NI I.aQ e;mright;have hz:vs.length<=sizeLine:=by rw[<-U.length];exact z
  have J:(putK Y k v).length<=sizeLine:=by have:=yB Y k v;lia
  refine wpAny_setItem_pairs (hsz:=hz) (JY D) L λh' T G=>h _ ?_;have m:∃q,h'.get? a=some q:=let ⟨q,_,_,O,_⟩:=T;⟨q,O⟩
  exact u9 I (by rw[e];exact True.intro) G m (Om J hd (U.put k C) T)
 subst N M;cases(show u=Value.ref b from D);mleft;obtain⟨z,hd,xs,U,L⟩:=S4 I.aQ e;mright;have hz:xs.length<=sizeLine:=by rw[<-mO U];exact z
 have J:(putK Y k v).length<=sizeLine:=by have:=yB Y k v;lia
 refine wpAny_setItem_heap (hsz:=hz) (NC n) (zy I.aQ p) L λh' T G=>h _ ?_;mleft;obtain⟨q,j,i,O,f,d,h4,_,h5⟩:=T;mright;refine u9 I (by rw[e];exact True.intro) G ⟨q,O⟩ ⟨J,hd,_,(U.put k p C).keeps λc ys o=>?_,q,j,i,O,f,d,h4,h5⟩
 rw[aj (S2 o e (λz=>nomatch z))];exact o
end
def Tr(U T Q:TE):TS:=λD σ H=>Q σ H λv H1=>U σ H1 λx O=>T σ O λy N=>∃a Y,x=.ref a/\mE N a y v Y/\D.nx σ Y
section
variable{X:Cx}{o i e value:Expr}{pos pos' tpos:Pos}{td ty tv:TE}
theorem Ez(U:X.A.units+1<cLine)(T:PE X o td)(Q:PE X i ty)(O:PE X value tv)(N:swapsWith value (some (.Subscript o i pos')) pos.line X.env=pure false) :
  PS X (.Assign [.Subscript o i pos'] value pos) (Tr td ty tv):=by
 intro pins s σ H D I h;refine wpAny_Assign_Subscript (aZ (O pins s σ H _ I h) λr M ⟨v,H1,L,J,G⟩=>aZ (T pins M σ H1 _ L G) λu E ⟨x,C,B,z,q⟩=>aZ (Q pins E σ C _ B q) λe d Y=>?_) N;mleft;obtain⟨y,c,p,n,a,m,l,g,j⟩:=Y;mright;subst l;obtain rfl:u=Value.ref a:=z;exact VO U p g n J λb f=>⟨σ,m,f,j⟩
end
theorem O8{P:Program}{w:World}{H:Hp}(h:Heap)(Y:sysModules<h.objs.size):dH P w H (h.push { cls:=.type "dict",data:=.dict #[] }) h.objs.size (.dK []):=
 ⟨dy _,beq_eq_false_iff_ne.mpr (bq (fZ Y)),[],.nil,Heap.DictOf.new h⟩
theorem Px{P:Program}{w:World}{H:Hp}(h:Heap)(Y:sysModules<h.objs.size):dH P w H (h.push { cls:=.type "dict",data:=.dict #[] }) h.objs.size (.dT []):=
 ⟨dy _,beq_eq_false_iff_ne.mpr (bq (fZ Y)),[],.nil,_,#[],0,eR _ rfl,⟨rfl,rfl,rfl⟩,rfl,rfl,Up⟩
def Wg:TE:=λ_ H Q=>∀p,H p=none->Q (.ref p) (upd H p (.dK []))
def VX:TE:=λ_ H Q=>∀p,H p=none->Q (.ref p) (upd H p (.dT []))
section
variable{X:Cx}{pos:Pos}
theorem rq:PE X (.Dict [] [] pos) Wg:=λpins s σ H Q I h =>
 wpAny_Dict_empty ⟨.ref s.heap.objs.size,_,I.laid (a:=s.heap.objs.size) (o:=.dK []) (t':=s.toks) (λ_ _ q=>cA _ q) (bD _) (O8 s.heap I.big),rfl,h _ (I.aQ.fresh (bD _))⟩
theorem Qr:PE X (.Dict [] [] pos) VX:=λpins s σ H Q I h =>
 wpAny_Dict_empty ⟨.ref s.heap.objs.size,_,I.laid (a:=s.heap.objs.size) (o:=.dT []) (t':=s.toks) (λ_ _ q=>cA _ q) (bD _) (Px s.heap I.big),rfl,h _ (I.aQ.fresh (bD _))⟩
end
def Dq:List (TE×TE)->St->Hp->(List (V×V)->Hp->Prop)->Prop
 |[],_,H,Q=>Q [] H
 |(tk,Y)::r,σ,H,Q=>tk σ H λx H1=>Y σ H1 λy U=>Dq r σ U λps T=>Q ((x,y)::ps) T
abbrev VV:List (V×V)->List (Value×Value)->Prop:=Paired λp q=>RelV p.1 q.1/\RelV p.2 q.2
def Zm(X:Cx)(pos:Pos)(U:List (Option Expr))(Y:List Expr)(T:List (TE×TE)):Prop:=
 ∀(pins:bO) (s:Shared) (σ:St) (H:Hp) (Q:List (V×V)->Hp->Prop),Inv X pins σ H s->Dq T σ H Q->
  wpAny (model X.prog X.w) X.A (evalPairs (pairTrees U Y X.env pos)) (λvs O=>X2 λps H'=>Y3 (Inv X pins σ H' O) (VV ps vs) (Q ps H')) X.xe s
theorem aaz{X:Cx}:Zm X pos [] [] []:=λpins s σ H Q I h=>pairTrees_nil_walk ⟨[],H,I,.nil,h⟩
theorem XD{X:Cx}{k v:Expr}{T:List (Option Expr)}{vs:List Expr}{tk O:TE}{Y:List (TE×TE)}(N:PE X k tk)(M:PE X v O)(hr:Zm X pos T vs Y) :
  Zm X pos (some k::T) (v::vs) ((tk,O)::Y):=λpins s σ H Q I h =>
 pairTrees_cons_walk (aZ (N pins s σ H _ I h) λu L ⟨x,H1,J,G,E⟩=>aZ (M pins L σ H1 _ J E) λo D ⟨y,C,B,A,z⟩ =>
  aZ (hr pins D σ C _ B z) λn m ⟨ps,r,q,U,p⟩=>⟨(x,y)::ps,r,q,.cons ⟨G,A⟩ U,p⟩)
def j6(U Y:List (Key×V)):List (Key×V):=Y.foldl (λacc T=>putK acc T.1 T.2) U
theorem KV.merge:∀{Y:List (Key×V)} {T:List (Key×Value)} {U:List (Key×V)} {vs:List (Key×Value)},KV Y T->KV U vs->KV (j6 U Y) (merged vs T):=by
 intro Y T U vs r;unfold KV at r
 induction r generalizing U vs with
 |nil=>intro q;exact q
 |@cons p q ps N h t Q =>
  intro O;have e:KV (putK U p.1 p.2) (stored vs q.1 q.2):=by
   have:=O.put p.1 h.2;rw[<-h.1];exact this
  exact Q e
theorem ug:∀(U Y:List (Key×V)),(j6 Y U).length<=Y.length+U.length
 |[],Y=>by show Y.length<=Y.length+0;lia
 |p::r,Y=>by
  have T:=ug r (putK Y p.1 p.2);have Q:=yB Y p.1 p.2;show(j6 (putK Y p.1 p.2) r).length<=_;rw[cT];lia
theorem HP{P:Program}{w:World}:∀{Y:List (Key×V)} {T:List (Value×Value)},VV (Y.map λQ=>(kV Q.1,Q.2)) T->∃U,Carries (cX P w) T U/\KV Y U
 |[],_,r=>by rw[qC]at r;cases r;exact⟨[],True.intro,.nil⟩
 |p::Y,_,r=>by
  rw[bM]at r;cases r with
  |@cons a b as bs h t =>
   obtain⟨U,c,q⟩:=HP (P:=P) (w:=w) t;obtain⟨N,O⟩:=b;exact⟨(p.1,O)::U,⟨JY h.1,rfl,c⟩,.cons ⟨rfl,h.2⟩ q⟩
def ZE(U:List (TE×TE)):TE:=λσ H Q=>∀p,H p=none->Dq U σ (upd H p (.dK [])) λps T=>T p=some (.dK [])/\∃Y:List (Key×V),ps=Y.map (λO=>(kV O.1,O.2))/\Y.length<=15/\Q (.ref p) (upd T p (.dK (j6 [] Y)))
theorem ZZ{X:Cx}{Y:List (Option Expr)}{U:List Expr}{T:List (TE×TE)}(h:Zm X pos Y U T)(O:Y.all (·.isSome)=true)(D:Y.length=U.length)(C:Y≠[])
  (L:Y.length<=15):PE X (.Dict Y U pos) (ZE T):=by
 intro pins s σ H Q I q;have B:=I.aQ.fresh (bD s.heap.objs.size);have A:=I.laid (a:=s.heap.objs.size) (o:=.dK []) (h':=s.heap.push { cls:=.type "dict",data:=.dict #[] }) (t':=s.toks) (λ_ _ q=>cA _ q) (bD _) (O8 s.heap I.big);refine wpAny_Dict_walk (knd:=cX X.prog X.w) O D C L (aZ (h pins _ σ _ _ A (q _ B)) λf d J=>?_);mleft;obtain⟨ps,b,E,G,e,N,y,lk,v⟩:=J;mright;subst y;obtain⟨u,c,r⟩:=HP (P:=X.prog) (w:=X.w) G;mleft;obtain⟨z,hd,p,n,m⟩:=NI E.aQ e;mright;cases n;refine⟨u,c,m,λh' M l=>⟨.ref s.heap.objs.size,_,?_,rfl,v⟩⟩;have hz:(j6 [] N).length<=sizeLine:=by
  have j:=ug N [];rw[oH]at j;rw[IS];lia
 have i:∃q,h'.get? s.heap.objs.size=some q:=let ⟨q,_,_,g,_⟩:=M;⟨q,g⟩
 exact u9 E (by rw[e];exact True.intro) l i (Om hz hd (r.merge .nil) M)
structure M1(X:Cx)(o:Expr)(m:Str)(apos:Pos)(e:Expr)(cpos:Pos):Prop where
 base:attributeBase o m X.env (eval o X.env)=eval o X.env
 U5:((backTo cpos (starEach [e] X.env)).all (λx=>!x.1)&&(backToKw cpos (keywordEach [] X.env)).all (λx=>x.1.isSome)
  && decide (([e]:List Expr).length+([]:List Keyword).length+(if ([]:List Keyword).isEmpty then 0 else 1)<30))=true
 line:(apos.endLine==cpos.line)=true
 trees:backTo cpos (starEach [e] X.env)=[(false,eval e X.env)]
structure M2(X:Cx)(o:Expr)(m:Str)(apos:Pos)(e f:Expr)(cpos:Pos):Prop where
 base:attributeBase o m X.env (eval o X.env)=eval o X.env
 U5:((backTo cpos (starEach [e,f] X.env)).all (λx=>!x.1)&&(backToKw cpos (keywordEach [] X.env)).all (λx=>x.1.isSome)
  && decide (([e,f]:List Expr).length+([]:List Keyword).length+(if ([]:List Keyword).isEmpty then 0 else 1)<30))=true
 line:(apos.endLine==cpos.line)=true
 trees:backTo cpos (starEach [e,f] X.env)=[(false,eval e X.env),(false,eval f X.env)]
def OK(H:Hp)(a:Addr):Prop:=(∃Y,Rd H a (.dK Y))\/∃Y,Rd H a (.dT Y)
theorem Jh{X:Cx}{pins:bO}{σ:St}{H:Hp}{s:Shared}{a:Addr}(I:Inv X pins σ H s)(d:OK H a) :
  s.TypeIs (.ref a) "dict"/\(∀b,Value.ref a=.ref b->∃Y,s.heap.get? b=some Y/\Y.dict=none)/\(a==sysModules)=false:=by
 rcases d with⟨T,e⟩|⟨T,e⟩
 .mleft;obtain⟨_,hd,vs,_,U⟩:=N3 I.aQ e;mright;refine⟨U.typeIs,λb q=>?_,hd⟩;cases q;mleft;obtain⟨Y,_,_,Q,O,_⟩:=U;mright;exact⟨Y,Q,O.2.1⟩
 mleft;obtain⟨_,hd,xs,_,U⟩:=NV I.aQ e;mright;refine⟨U.typeIs,λb q=>?_,hd⟩;cases q;mleft;obtain⟨Y,_,_,Q,O,_⟩:=U;mright;exact⟨Y,Q,O.2.1⟩
section
variable{X:Cx}{pins:bO}{σ:St}{H:Hp}{s:Shared}{a:Addr}{y d:V}{u r:Value}{o:Option V}{A:Around}{E:b7}
theorem abw{Q:b7}(J:A.units+1<cLine)(I:Inv X pins σ H s)(g:oz H a y o)(N:RelV y u)(h:∀M L,Inv X pins σ H L->RelV (o.getD .aX) M->Q M L) :
  wpAny (model X.prog X.w) A (call (.builtin "dict.get") [.ref a,u]) Q E s:=by
 rcases g with⟨T,k,e,O,l⟩|⟨T,k,b,e,O,G,l⟩
 .subst O;mleft;obtain⟨z,hd,vs,Y,U⟩:=N3 I.aQ e;mright;refine Jg EE U.typeIs N2 (PySem.F.args_dict_get_2 _ _) (meets_dict_get (cX X.prog X.w) a (JY N) hd) ⟨_,U.mapOf,h _ _ (I.tok _) ?_⟩;rw[l];exact(Y.val k).getD rfl
 subst O;cases(show u=Value.ref b from N);mleft;obtain⟨z,hd,xs,Y,U⟩:=NV I.aQ e;mright;refine Jg EE U.typeIs N2 (PySem.F.args_dict_get_2 _ _) (meetsH_dict_get (tupleKind (cX X.prog X.w)) a b hd) ⟨NC J,k,xs,zy I.aQ G,U,h _ _ (I.tok _) ?_⟩;rw[l];exact(Y.val k).getD rfl
theorem aaV{Q:b7}(G:A.units+1<cLine)(I:Inv X pins σ H s)(g:oz H a y o)(N:RelV y u)(M:RelV d r)(h:∀L J,Inv X pins σ H J->RelV (o.getD d) L->Q L J) :
  wpAny (model X.prog X.w) A (call (.builtin "dict.get") [.ref a,u,r]) Q E s:=by
 rcases g with⟨T,k,e,O,l⟩|⟨T,k,b,e,O,D,l⟩
 .subst O;mleft;obtain⟨z,hd,vs,Y,U⟩:=N3 I.aQ e;mright;refine Jg EE U.typeIs N2 (PySem.F.args_dict_get_3 _ _ _) (meets_dict_get_default (cX X.prog X.w) a (JY N) hd r) ⟨_,U.mapOf,h _ _ (I.tok _) ?_⟩;rw[l];exact(Y.val k).getD M
 subst O;cases(show u=Value.ref b from N);mleft;obtain⟨z,hd,xs,Y,U⟩:=NV I.aQ e;mright;refine Jg EE U.typeIs N2 (PySem.F.args_dict_get_3 _ _ _) (meetsH_dict_get_default (tupleKind (cX X.prog X.w)) a b hd r) ⟨NC G,k,xs,zy I.aQ D,U,h _ _ (I.tok _) ?_⟩;rw[l];exact(Y.val k).getD M
end
def Vt(U T:TE):TE:=λσ H Q=>U σ H λx H1=>∃a,x=.ref a/\OK H1 a/\T σ H1 λy Y=>∃o,oz Y a y o/\Q (o.getD .aX) Y
def Jv(U T O:TE):TE:=λσ H Q=>U σ H λx H1=>∃a,x=.ref a/\OK H1 a/\T σ H1 λy N=>O σ N λz Y=>∃o,oz Y a y o/\Q (o.getD z) Y
section
variable{X:Cx}{o e f:Expr}{apos cpos:Pos}{td ty tx:TE}
theorem AQ(O:X.A.units+1<cLine)(N:PE X o td)(M:PE X e ty)(m:M1 X o "get" apos e cpos):PE X (.Call (.Attribute o "get" apos) [e] [] cpos) (Vt td ty):=by
 intro pins s σ H Q I h;refine EB m.base m.U5 m.line M7 EE PySem.F.type_dict_get (aZ (N pins s σ H _ I h) λu L Y=>?_);mleft;obtain⟨x,H1,T,J,a,G,d,E⟩:=Y;mright;subst G;obtain rfl:u=Value.ref a:=J;obtain⟨D,C,_⟩:=Jh T d;refine⟨D,C,?_⟩;rw[m.trees];refine Ey rfl (Iz (Af (aZ (M pins L σ H1 _ T E) λp n ⟨y,B,z,v,l,g,r⟩=>HF ?_)));exact abw O z g v λj i q U=>⟨_,B,q,U,r⟩
theorem O3(O:X.A.units+1<cLine)(N:PE X o td)(M:PE X e ty)(L:PE X f tx)(m:M2 X o "get" apos e f cpos):PE X (.Call (.Attribute o "get" apos) [e,f] [] cpos) (Jv td ty tx):=by
 intro pins s σ H Q I h;refine EB m.base m.U5 m.line M7 EE PySem.F.type_dict_get (aZ (N pins s σ H _ I h) λu J Y=>?_);mleft;obtain⟨x,H1,T,G,a,E,d,D⟩:=Y;mright;subst E;obtain rfl:u=Value.ref a:=G;obtain⟨C,B,_⟩:=Jh T d;refine⟨C,B,?_⟩;rw[m.trees];refine Ey rfl (Iz (Af (aZ (M pins J σ H1 _ T D) λiv v ⟨y,r,q,p,n⟩ =>
  Af (aZ (L pins v σ r _ q n) λfv s3 ⟨z,l,j,i,ov,g,c⟩=>HF ?_))))
 exact aaV O j g p i λw' s4 b U=>⟨_,l,b,U,c⟩
end
end
section
variable{elts:List Expr}{kk:Nat}{tpos pos:Pos}{tg:Expr}{ta:TA}{kvs:List (Key×V)}
theorem J5:bootBuiltins "reversed"=some (.type "reversed"):=Mo
section
variable{X:Cx}{pins:bO}{σ:St}{H:Hp}{s:Shared}{h':Heap}
theorem Inv.Dk{t':Nat}{ch:List Addr}{T:Addr}{M:HO}(I:Inv X pins σ H s)(k:∀b o,b∉ch->s.heap.get? b=some o->h'.get? b=some o)(Q:∀b∈ch,oX X pins H b)(J:s.heap.objs.size<=T)
  (L:dH X.prog X.w (upd H T M) h' T M):Inv X pins σ (upd H T M) { s with heap:=h',toks:=t' }:=by
 have O:H T=none:=I.aQ.fresh J;have N:∀b u,H b=some u->b∉ch:=λb u e z=>by
  have q:=(Q b z).1;rw[q]at e;cases e
 refine I.step (g':=s.gens) (d':=s.drawn) (ch:=ch) (λb Y=>⟨(Q b Y).2.2.2.1,(Q b Y).2.1,(Q b Y).2.2.2.2.1,(Q b Y).2.2.2.2.2⟩) (λb o _ _ U e _=>k b o U e) (λb o _ _ U e _=>⟨o.slots,k b o U e⟩)
  (λb o _ e n=>?_) (λb o U e=>⟨o,k b o U e⟩) (λb xs e=>?_) (λb o u e=>?_) (λb ps e=>⟨#[],?_⟩) (λm G=>?_) (λb u e=>?_) I.bare
 .rw[aj (fZ (eE (bV e) J))];exact n
 .rw[aj (aO e O)];exact e
 .rw[aj (aO e O)];exact e
 .rw[aj (aO e O),e];simp
 .mleft;obtain⟨o,E,D,C,r⟩:=G;mright;exact⟨o,E,D,k _ o (λz=>(Q _ z).2.1 rfl) C,r⟩
 by_cases Y:b=T
 .subst Y;rw[af]at e;cases e;exact L
 rw[aj Y]at e;refine(I.aQ b u e).lq (λc v U q=>k c v ?_ q) (λc q=>by rw[aj (aO q O)];exact q) λc xs q=>by rw[aj (aO q O)];exact q
 rcases U with z|z
 .rw[z];exact N b u e
 exact N c _ z
theorem Inv.lock{d:Addr}{u:HO}(I:Inv X pins σ H s)(h:H d=some u)(Y:LA (some u)):∃od,Inv X pins σ (upd H d (.cV od u)) s:=by
 have x:=I.aQ d u h;have T:∃od,s.heap.get? d=some od:=by
  cases u with
  |lst xs=>obtain⟨_,_,_,_,e⟩:=x;exact⟨_,e⟩
  |dK kvs=>obtain⟨_,_,_,_,o,_,_,e,_⟩:=x;exact⟨o,e⟩
  |dT kvs=>obtain⟨_,_,_,_,o,_,_,e,_⟩:=x;exact⟨o,e⟩
  |set S n=>obtain⟨o,_,_,_,e,_⟩:=x;exact⟨o,e⟩
  |ins C Q fs=>obtain⟨_,_,_,e,_⟩:=x;exact⟨_,e⟩
  |ext φ=>obtain⟨_,⟨_,e⟩,_⟩:=x;exact⟨_,e⟩
  |_=>exact False.elim Y
 obtain⟨od,e⟩:=T;have U:dH X.prog X.w (upd H d (.cV od u)) s.heap d (.cV od u):=by
  refine⟨e,x.lq (λb v _ q=>q) (λb q=>?_) λb xs q=>?_⟩
  .rw[aj (λz=>by rw[z,h]at q;cases q;exact Y)];exact q
  rw[aj (λz=>by rw[z,h]at q;cases q;exact Y)];exact q
 exact⟨od,I.write (x:=d) (e:=d) (t':=s.toks) (h':=s.heap) (by rw[h];exact Y) (.inl rfl) (λb v _ q=>q) ⟨od,e⟩ U⟩
theorem Inv.N5{d:Addr}{u:HO}(I:Inv X pins σ H s)(h:H d=some u)(T:LA (some u)):∀Y U,X.Pb d≠some (.cV Y U):=λY U e=>by
 have q:=I.base.qN d Y U e;rw[h]at q;cases q;exact T
theorem Inv.unlock{d:Addr}{M:Obj}{u:HO}(I:Inv X pins σ H s)(h:H d=some (.cV M u))(L:∀U T,X.Pb d≠some (.cV U T)):Inv X pins σ (upd H d u) s:=by
 have Y:∀b o,H b=some o->(∀U T,o≠.cV U T)->b≠d:=λb o e Q z=>by
  rw[z,h]at e;cases e;exact Q _ _ rfl
 have neN:∀b,H b=none->b≠d:=λb e z=>by rw[z,h]at e;cases e
 refine⟨I.ok,I.os,I.bare,⟨I.base.keep,I.base.slot,λb o e n N=>?_,I.base.there,λb xs e=>?_,λb o x e=>?_,λb ps e=>?_⟩,I.loc,I.cell,?_,λx c e=>?_,λp J=>?_,λb o e=>?_,I.len⟩
 .rw[aj (neN b (I.base.free b o e n N))];exact I.base.free b o e n N
 .have q:=I.base.tJ b xs e;rw[aj (Y b _ q (λ_ _ z=>nomatch z))];exact q
 .have q:=I.base.qN b o x e;rw[aj (λz=>by rw[z]at e;exact L _ _ e)];exact q
 .obtain⟨m,q⟩:=I.base.tM b ps e;exact⟨m,by rw[aj (Y b _ q (λ_ _ z=>nomatch z))];exact q⟩
 .rw[aj (neN _ I.free)];exact I.free
 .rw[aj (neN c (I.g7 x c e))];exact I.g7 x c e
 .obtain⟨e,n,r⟩:=I.pin p J;exact⟨e,by rw[aj (neN _ n)];exact n,r⟩
 by_cases O:b=d
 .rw[O,af]at e;cases e;rw[O];obtain⟨_,x⟩:=I.aQ d _ h;exact x.lq (λc v _ q=>q) (λc q=>by rw[aj (Y c _ q (λ_ _ z=>nomatch z))];exact q) λc xs q=>by rw[aj (Y c _ q (λ_ _ z=>nomatch z))];exact q
 rw[aj O]at e;exact(I.aQ b o e).lq (λc v _ q=>q) (λc q=>by rw[aj (Y c _ q (λ_ _ z=>nomatch z))];exact q) λc xs q=>by rw[aj (Y c _ q (λ_ _ z=>nomatch z))];exact q
end
def Ur(t:TS):TS:=λD σ H=>∃d u,H d=some u/\LA (some u)/\∀T,t ⟨λY U=>U d=some (.cV T u)/\D.nx Y (upd U d u),λv U=>U d=some (.cV T u)/\D.rt v (upd U d u),λY U=>U d=some (.cV T u)/\D.bk Y (upd U d u),λY U=>U d=some (.cV T u)/\D.ct Y (upd U d u)⟩ σ (upd H d (.cV T u))
section
variable{X:Cx}
theorem yO{st:Stmt}{t:TS}(h:PS X st t):PS X st (Ur t):=by
 intro pins s σ H D I Q;mleft;obtain⟨d,u,hd,T,Q⟩:=Q;mright;obtain⟨N,M⟩:=I.lock hd T;refine aZ (h pins s σ _ _ M (Q N)) λf L q=>?_;cases f with
 |next=>obtain⟨Y,O,U,e,q⟩:=q;exact⟨Y,_,U.unlock e (I.N5 hd T),q⟩
 |brk=>obtain⟨Y,O,U,e,q⟩:=q;exact⟨Y,_,U.unlock e (I.N5 hd T),q⟩
 |cont=>obtain⟨Y,O,U,e,q⟩:=q;exact⟨Y,_,U.unlock e (I.N5 hd T),q⟩
 |ret v=>obtain⟨x,Y,O,U,r,e,q⟩:=q;exact⟨x,Y,_,U.unlock e (I.N5 hd T),r,q⟩
theorem HD{pins:bO}{σ:St}{H:Hp}{s:Shared}{R:It->Hp->Prop}{J:It}{Y:Nat->Heap->Prop}{tk:Nat}(I:Inv X pins σ H s)(o:Obj)
  (T:Turn X.prog X.w X.K tg J [s.heap.objs.size] s.heap.objs.size Y) (st:Y 0 (s.heap.push o)) (q:R J H):Vm X pins σ tg R (.ref s.heap.objs.size) { s with heap:=s.heap.push o,toks:=tk }:=by
 refine⟨s.heap.objs.size,[s.heap.objs.size],Y,J,H,rfl,I.kept λb Q e=>cA _ e,T,st,λb U=>?_,q⟩;have e:b=s.heap.objs.size:=by simpa using U
 subst e;exact I.Gw (bD _) (I.aQ.fresh (bD _))
end
def WJ(lo c:Int)(n:Nat):It:=⟨λi _=>i<n,λi H x Y=>Y=H/\x=.int (lo+(i:Nat)*c),λi _=>n<=i⟩
theorem Rt{P:Program}{w:World}{K:W.Frag}(it:Addr)(lo c:Int)(n:Nat):Turn P w K tg (WJ lo c n) [it] it (λi h=>IsRangeIter h it (lo+(i:Nat)*c) ((n:Int) - (i:Nat)) c) where
 mem:=by simp
 obj:=λi h st b Y=>by
  have e:b=it:=by simpa using Y
  subst e;exact⟨_,st,λv z=>nomatch z⟩
 keep:=λi h h' st k=>k it aP _ st
 item:=by
  intro X O N M L i pins s σ H E I T st J;subst O N M;mleft;obtain⟨G,D,u,C,B,y⟩:=T it aP;mright;have W:=Walks.range (prog:=X.prog) (w:=X.w) (I.ok.hd L) it lo c n;refine W.item i s _ _ J st λv h' tk r U kk=>?_;obtain⟨t,rfl⟩:=r;have q:Inv X pins σ H { s with heap:=h',toks:=tk }:=I.turned (λb o Y e=>kk b o (by simpa using Y) e) G D C B y
  exact⟨_,rfl,HG (s:={ s with heap:=h',toks:=tk }) (n:="range_iterator") U rfl rfl aG ⟨.int (lo+(i:Nat)*c),H,q,⟨t,rfl⟩,⟨rfl,rfl⟩,U,λb Y=>(T b Y).1⟩⟩
 done:=by
  intro X O N M L i pins s σ H E I T st J;subst O N M;mleft;obtain⟨G,D,u,C,B,y⟩:=T it aP;mright;exact wpAny_pyNext_range_end (I.ok.hd L) st (by have:n<=i:=J;lia) λh' p=>⟨rfl,I.turned (t':=s.toks) (λb o Y e=>p b o Y e) G D C B y⟩
 self:=λA i s Q E st h=>wpAny_pyIter_rangeiter st h
def Ze(i j c:Int)(n:Nat):Prop:=c≠0/\c.natAbs<1073741824/\Builtin.Range.small i j c=true/\Builtin.Range.rangeSize i j c=n
theorem Ze.neg{i j:Int}(T:-(2 ^ 62)<=i)(Y:i<2 ^ 62)(Q:-(2 ^ 62)<=j)(U:j<2 ^ 62):Ze i j (-1) (i - j).toNat:=
 ⟨aG,aG,W.small_down T Y Q U,W.rangeSize_downNat i j⟩
def Za(ta:TA):TI:=λσ H R=>ta σ H λvs H1=>∃(i j c:Int) (n:Nat),vs=[.int i,.int j,.int c]/\Ze i j c n/\R (WJ i c n) H1
section
variable{X:Cx}{tg:Expr}
theorem Wk{a b c:Expr}{p:Pos}(M:Gl X "range")(L:X.mg "range"=none)(J:PA X [a,b,c] ta)
  (G:starEach [a,b,c] X.env=(false,eval a X.env)::starEach [b,c] X.env:=by rfl) (T:(backTo pos (starEach [b,c] X.env)).any (·.1)=false:=by rfl) :
  PI X tg (.Call (.Name "range" p) [a,b,c] [] pos) (Za ta):=by
 intro pins s σ H R I h;refine Call_ (wC I M L boot_range (Ji (aZ (J pos pins s σ H _ I h) λus U Q=>?_) G T));mleft;obtain⟨vs,H1,E,D,C⟩:=Q;mright;mleft;obtain⟨i,j,k,n,e,⟨B,A,z,y⟩,q⟩:=C;mright;subst e;cases D with
 |cons r Y =>
  cases Y with
  |cons v Y =>
   cases Y with
   |cons O Y =>
    cases Y;obtain⟨t,rfl⟩:=r;obtain⟨t',rfl⟩:=v;obtain⟨N,rfl⟩:=O;refine call_range_3 B ?_ (.inl (PyProof.noPylong_small A));refine wpAny_pyIter_range (IsRange.new ..) z ?_;have u:Inv X pins σ H1 { U with heap:=U.heap.push { cls:=.type "range",data:=.fields #[.int i t,.int j t',.int k N] } }:=E.kept (t':=U.toks) λb o e=>cA _ e
    refine HD (tk:=U.toks) u _ (Rt _ i k n) ?_ q;have m:i+((0:Nat):Int)*k=i:=by simp
    have l:(n:Int) - ((0:Nat):Int)=Builtin.Range.rangeSize i j k:=by rw[y];simp
    show IsRangeIter _ _ (i+((0:Nat):Int)*k) ((n:Int) - ((0:Nat):Int)) k;rw[m,l];exact eR _ rfl
end
theorem Ux{lo c:Int}{n:Nat}{g:TG}{M:TS}{D:Ends}{σ:St}{H:Hp}(Pv:Nat->St->Hp->Prop)(J:Pv 0 σ H)
  (I:∀i σ H,i<n->Pv i σ H->g (.int (lo+(i:Nat)*c)) σ H λY O=>M { D with nx:=Pv (i+1),ct:=Pv (i+1),bk:=D.nx } Y O) (hd:∀σ H,Pv n σ H->D.nx σ H) :
  ∃W:Nat->Nat->St->Hp->Prop,(∃m,W 0 m σ H)/\∀i m σ H,W i m σ H->
   ((WJ lo c n).stop i H/\D.nx σ H)\/((WJ lo c n).go i H/\∃N:St->Hp->Prop,(∀U T,N U T->∃L,L<m/\W (i+1) L U T)/\∀x T,(WJ lo c n).IE i H x T->g x σ T λY O=>M { D with nx:=N,ct:=N,bk:=D.nx } Y O):=by
 refine⟨λi m σ H=>m=n - i/\i<=n/\Pv i σ H,⟨n,by simp,dy _,J⟩,?_⟩
 rintro i m σ H ⟨rfl,E,p⟩;by_cases Q:i<n
 .refine .inr ⟨Q,Pv (i+1),λU T G=>⟨n - (i+1),ao,rfl,Q,G⟩,λx T y=>?_⟩;obtain⟨e,y⟩:=y;subst e y;exact I i σ _ Q p
 have e:i=n:=by lia
 subst e;exact .inl ⟨bD _,hd σ H p⟩
def Itv(K:W.Frag)(a:Addr)(n:Nat):It:=
 ⟨λi H=>i<n/\∃(xs:List V) (x:V),dn K H a xs/\xs[n - 1 - i]?=some x,λi H x Y=>Y=H/\∀xs,dn K H a xs->xs[n - 1 - i]?=some x,λi _=>n<=i⟩
theorem Xa{P:Program}{w:World}{K:W.Frag}(a it:Addr)(n:Nat):Turn P w K tg (Itv K a n) [it] it (λi h=>i<=n/\h.IsRevIter it a ((n:Int) - 1 - (i:Nat))) where
 mem:=by simp
 obj:=λi h st b U=>by
  have e:b=it:=by simpa using U
  subst e;mleft;obtain⟨_,o,e,c,d⟩:=st;mright;exact⟨o,e,λv z=>by rw[d]at z;cases z⟩
 keep:=λi h h' st k=>⟨st.1,st.2.at λo e=>k it aP o e⟩
 item:=by
  intro X M L J m i pins s σ H E I N st G;subst M L J;mleft;obtain⟨O,xs,x,l,j⟩:=G;mright;mleft;obtain⟨g,f,p,hz⟩:=I.list l;mright;obtain⟨u,hu,ru⟩:=f.get j;mleft;obtain⟨D,C,f2,B,y,r⟩:=N it aP;mright;obtain⟨_,Y⟩:=st;have q:(n:Int) - 1 - ((i:Nat):Int)=((n - 1 - i:Nat):Int):=by lia
  rw[q]at Y;refine wpAny_pyNext_rev_item Y p.isList (x:=u) (by simpa using hu) λh' T sb=>?_
  have e2:((n - 1 - i:Nat):Int) - 1=(n:Int) - 1 - ((i+1:Nat):Int):=by lia
  rw[e2]at T;have I1:Inv X pins σ H { s with heap:=h' }:=I.turned (t':=s.toks) (λb o U e=>(sb.2 b U).trans e) D C B y r
  mleft;obtain⟨o,e,c,d⟩:=id T;mright;exact⟨u,rfl,HG (s:={ s with heap:=h' }) e c d aG ⟨x,H,I1,ru,⟨rfl,λys hy=>by rw[I.Hj hy l];exact j⟩,⟨O,T⟩,λb U=>(N b U).1⟩⟩
 done:=by
  intro X M L J m i pins s σ H E I N st G;subst M L J;mleft;obtain⟨D,C,f2,B,y,r⟩:=N it aP;mright;obtain⟨O,Y⟩:=st;have ab:n<=i:=G;have q:(n:Int) - 1 - ((i:Nat):Int)=-1:=by lia
  rw[q]at Y;exact wpAny_pyNext_rev_end (I.ok.hd m) Y λh' eb=>⟨rfl,I.turned (t':=s.toks) (λb o U e=>eb b o U e) D C B y r⟩
 self:=λA i s Q E st h=>wpAny_pyIter_revIter st.2 h
def abD(K:W.Frag)(ta:TA):TI:=λσ H R=>ta σ H λvs H1=>∃(a:Addr) (xs:List V),vs=[.ref a]/\dn K H1 a xs/\R (Itv K a xs.length) H1
section
variable{X:Cx}{tg:Expr}
theorem QT{e:Expr}{p:Pos}(Q:Gl X "reversed")(O:X.mg "reversed"=none)(N:PA X [e] ta)(M:starEach [e] X.env=[(false,eval e X.env)]:=by rfl):PI X tg (.Call (.Name "reversed" p) [e] [] pos) (abD X.K ta):=by
 intro pins s σ H R I h;refine Call_ (wC I Q O J5 (Ji (aZ (N pos pins s σ H _ I h) λus L U=>?_) M rfl));mleft;obtain⟨vs,H1,T,J,G⟩:=U;mright;mleft;obtain⟨a,xs,e,E,q⟩:=G;mright;subst e;cases J with
 |cons r D =>
  cases D;cases r;mleft;obtain⟨Y,C,B,hz⟩:=T.list E;mright;have z:=C.length;have A:((Y.toArray.size:Nat):Int) - 1=(xs.length:Int) - 1 - ((0:Nat):Int):=by simp only[eu];lia
  refine call_reversed_list B.isList (wpAny_pyIter_revIter (l:=a) (i:=((Y.toArray.size:Nat):Int) - 1) ⟨_,eR _ rfl,rfl,rfl⟩ ?_);refine HD (tk:=L.toks) T _ (Xa a _ xs.length) ⟨dy _,?_⟩ q;rw[<-A];exact⟨_,eR _ rfl,rfl,rfl⟩
end
theorem We{κ:Type}{kvs:List (κ×V)}{vs:List (κ×Value)}(h:KV kvs vs):∀{i:Nat} {k:κ} {v:V},kvs[i]?=some (k,v)->∃u,vs[i]?=some (k,u)/\RelV v u:=by
 unfold KV at h
 induction h with
 |nil=>intro i k v e;simp at e
 |@cons a b Y U r t T =>
  intro i k v e;cases i with
  |zero =>
   simp only[KW,gY]at e;subst e;refine⟨b.2,?_,r.2⟩;simp only[KW];exact mR some (Prod.ext r.1.symm rfl)
  |succ j =>
   simp only[Kp]at e ⊢;exact T e
theorem qi{α β:Type}{G:α->β->Prop}{Y:List α}{U:List β}(h:Paired G Y U):∀{i:Nat} {a:α},Y[i]?=some a->∃b,U[i]?=some b/\G a b:=by
 induction h with
 |nil=>intro i a e;simp at e
 |@cons a b Y U r t T =>
  intro i Q e;cases i with
  |zero =>
   simp only[KW,gY]at e;subst e;exact⟨b,rfl,r⟩
  |succ j =>
   simp only[Kp]at e ⊢;exact T e
theorem Yn{k:Key}{u:Value}(h:xl k u=true):RelV (kV k) u:=by
 rcases ff h with⟨i,t,rfl,rfl⟩|⟨x,t,rfl,rfl⟩
 .exact⟨t,rfl⟩
 exact⟨t,rfl⟩
section
variable{X:Cx}{pins:bO}{σ:St}{H:Hp}{s:Shared}{d:Addr}{o:Obj}
theorem Inv.P1(I:Inv X pins σ H s)(h:H d=some (.cV o (.dK kvs))) :
  (d==sysModules)=false/\s.heap.get? d=some o/\o.ExactDict/\∃(Y:Array DictEntry) (ep:Nat) (vs:List (Key×Value)),o.data=.dict Y ep/\Y.size=kvs.length/\KV kvs vs/\s.heap.DictAt (cX X.prog X.w) d vs ep:=by
 mleft;obtain⟨hd,z,N,vs,T,L,Y,ep,Q,O,U,r⟩:=I.aQ d _ h;mright;rw[hd]at Q;cases Q;refine⟨N,hd,O,Y,ep,vs,U,?_,T,o,Y,hd,O,U,r⟩;have M:=r.2.1.length;have J:kvs.length=vs.length:=mO T;rw[S7]at M;lia
end
def Itd(d:Addr)(o:Obj)(kvs:List (Key×V)):It:=
 ⟨λi H=>H d=some (.cV o (.dK kvs))/\i<kvs.length,λi H x Y=>Y=H/\∃k,kvs[i]?=some (k,x),λi H=>H d=some (.cV o (.dK kvs))/\kvs.length<=i⟩
def Iti(d:Addr)(o:Obj)(kvs:List (Key×V)):It:=
 ⟨λi H=>H d=some (.cV o (.dK kvs))/\i<kvs.length,λi H x Y=>∃T k v,kvs[i]?=some (k,v)/\x=.ref T/\H T=none/\Y=upd H T (.tup [kV k,v]),λi H=>H d=some (.cV o (.dK kvs))/\kvs.length<=i⟩
theorem va{o:Obj}{T Y:Array DictEntry}{ep U:Nat}(h:o.data=.dict T ep)(h':o.data=.dict Y U):Y=T/\U=ep:=by
 rw[h]at h';cases h';exact⟨rfl,rfl⟩
section
variable{P:Program}{w:World}{K:W.Frag}{tg:Expr}{d:Addr}{o:Obj}{es:Array DictEntry}{ep:Nat}
theorem acE(it:Addr)(T:o.data=.dict es ep):Turn P w K tg (Itd d o kvs) [it] it (λi h=>h.IsValIter it d i kvs.length ep) where
 mem:=by simp
 obj:=λi h st b Y=>by
  have e:b=it:=by simpa using Y
  subst e;mleft;obtain⟨M,e,c,D⟩:=st;mright;exact⟨M,e,λv z=>by rw[D]at z;cases z⟩
 keep:=λi h h' st k=>st.at λM e=>k it aP M e
 item:=by
  intro X C B y hc i pins s σ H E I L st r;subst C B y;obtain⟨hd,hi⟩:=r;mleft;obtain⟨q,n,f2,m,l,j⟩:=L it aP;mright;mleft;obtain⟨hs,g,hx,f,a,vs,U,hsz,J,hm⟩:=I.P1 hd;mright;obtain⟨rfl,rfl⟩:=va T U;obtain⟨⟨k,v⟩,O⟩:∃p,kvs[i]?=some p:=⟨kvs[i],cu hi⟩;obtain⟨u,hu,ru⟩:=We J O;have G:kvs.length=vs.length:=mO J;rw[G]at st;refine wpAny_pyNext_values_item st hm hu λh' N sb=>?_;have I1:Inv X pins σ H { s with heap:=h' }:=I.turned (t':=s.toks) (λb ob Y e=>(sb.2 b Y).trans e) q n m l j
  mleft;obtain⟨M,e,c,D⟩:=id N;mright;refine⟨u,rfl,HG (s:={ s with heap:=h' }) e c D aG ⟨v,H,I1,ru,⟨rfl,k,O⟩,?_,λb Y=>(L b Y).1⟩⟩
  show h'.IsValIter it d (i+1) kvs.length _;rw[G];exact N
 done:=by
  intro X C B y hc i pins s σ H E I L st r;subst C B y;obtain⟨hd,hi⟩:=r;mleft;obtain⟨q,n,f2,m,l,j⟩:=L it aP;mright;mleft;obtain⟨hs,g,hx,f,a,vs,U,hsz,J,hm⟩:=I.P1 hd;mright;obtain⟨rfl,rfl⟩:=va T U;have G:kvs.length=vs.length:=mO J;rw[G]at st;exact wpAny_pyNext_values_end (I.ok.hd hc) st hm (nz ao) λh' eb=>⟨rfl,I.turned (t':=s.toks) (λb ob Y e=>eb b ob Y e) q n m l j⟩
 self:=λA i s Q E st h=>wpAny_pyIter_valiter st h
theorem TK(it:Addr)(L:o.data=.dict es ep) :
  Turn P w K (.Tuple elts kk tpos) (Iti d o kvs) [it] it (λi h=>∃ok N,IsItemIter h it d i kvs.length ep ok N) where
 mem:=by simp
 obj:=λi h st b U=>by
  have e:b=it:=by simpa using U
  subst e;obtain⟨ok,N,e⟩:=st;exact⟨_,e,λv z=>nomatch z⟩
 keep:=λi h h' st k=>let ⟨ok,N,e⟩:=st;⟨ok,N,k it aP _ e⟩
 item:=by
  intro X r q n hc i pins s σ H E I C st m;subst r q n;obtain⟨hd,hi⟩:=m;mleft;obtain⟨hs,l,hx,j,g,vs,T,hsz,B,f⟩:=I.P1 hd;mright;obtain⟨rfl,rfl⟩:=va L T;obtain⟨⟨k,v⟩,J⟩:∃p,kvs[i]?=some p:=⟨kvs[i],cu hi⟩;obtain⟨u,hu,ru⟩:=We B J;have y:kvs.length=vs.length:=mO B;obtain⟨ok,N,M⟩:=st;rw[y]at M;have G:it<s.heap.objs.size:=bV M;refine wpAny_pyNext_items_item M f hu λY h' D ho hT hz hk=>?_;refine⟨_,rfl,wpAny_letOwnedTupleGo_items (s:={ s with heap:=h' }) ho λO c sb=>?_⟩
  have a:O.get? s.heap.objs.size=some { cls:=.type "tuple",data:=.seq #[Y,u] }:=(sb.2 _ (Aw G)).trans hT;have ab:dH X.prog X.w (upd H s.heap.objs.size (.tup [kV k,v])) O s.heap.objs.size (.tup [kV k,v]):=
   ⟨by show 2<=sizeLine;decide,[Y,u],.cons (Yn (show xl k Y=true from D)) (.cons ru .nil),⟨_,a,rfl,_,rfl⟩⟩
  have I1:Inv X pins σ (upd H s.heap.objs.size (.tup [kV k,v])) { s with heap:=O }:=
   I.Dk (t':=s.toks) (ch:=[it]) (λb ob U e=>(sb.2 b (by simpa using U)).trans (hk b ob (by simpa using U) e)) C (bD _) ab
  refine⟨.ref s.heap.objs.size,_,I1,rfl,⟨_,k,v,J,rfl,I.aQ.fresh (bD _),rfl⟩,⟨Y,u,?_⟩,λb U=>?_⟩
  .rw[y];exact c
  have e:b=it:=by simpa using U
  rw[e,aj (fZ G)];exact(C it aP).1
 done:=by
  intro X r q n hc i pins s σ H E I C st m;subst r q n;obtain⟨hd,hi⟩:=m;mleft;obtain⟨f0,f1,f2,f3,f4,f5⟩:=C it aP;mright;mleft;obtain⟨hs,l,hx,j,g,vs,T,hsz,B,f⟩:=I.P1 hd;mright;obtain⟨rfl,rfl⟩:=va L T;have y:kvs.length=vs.length:=mO B;obtain⟨ok,N,M⟩:=st;rw[y]at M;exact wpAny_pyNext_items_end (I.ok.hd hc) M f (nz ao) λh' eb=>⟨rfl,I.turned (t':=s.toks) (λb ob U e=>eb b ob U e) f0 f1 f3 f4 f5⟩
 self:=λA i s Q E st h=>let ⟨_,_,e⟩:=st;W.kcp_self e h
end
def Vc(Y:TE):TI:=λσ H R=>Y σ H λx H1=>∃d o kvs,x=.ref d/\H1 d=some (.cV o (.dK kvs))/\R (Iti d o kvs) H1
section
variable{X:Cx}{tg e:Expr}{td:TE}{apos cpos:Pos}
theorem Gu(J:PE X e td)(U:attributeBase e "items" X.env (eval e X.env)=eval e X.env:=by rfl)(Q:(apos.endLine==cpos.line)=true:=by rfl) :
  PI X (.Tuple elts kk tpos) (.Call (.Attribute e "items" apos) [] [] cpos) (Vc td):=by
 intro pins s σ H R I h;refine EB (T:="dict") (id:="dict.items") U rfl Q F.plainAttrs_dict N0 F.type_dict_items (aZ (J pins s σ H _ I h) λu Y N=>?_);mleft;obtain⟨x,H1,L,G,d,o,kvs,E,hd,q⟩:=N;mright;subst E;obtain rfl:u=Value.ref d:=G;mleft;obtain⟨D,C,v,r,p,vs,M,hsz,B,O⟩:=L.P1 hd;mright;have z:kvs.length=vs.length:=mO B;refine⟨O.dictOf.typeIs,O.dictOf.mapOf.noDict,?_⟩;have y:Inv X pins σ H1 { Y with heap:=Y.heap.push { cls:=.type "dict_items",data:=.fields #[.ref d] } }:=L.kept (t':=Y.toks) λb n q=>cA _ q
 have fin:wpAny (model X.prog X.w) X.A (pyIter (.ref Y.heap.objs.size)) (Vm X pins σ (.Tuple elts kk tpos) R) X.xe { Y with heap:=Y.heap.push { cls:=.type "dict_items",data:=.fields #[.ref d] } }:=by
  refine wpAny_pyIter_items (d:=d) (knd:=cX X.prog X.w) ⟨_,eR _ rfl,rfl,rfl⟩ (O.push _) (HD (tk:=Y.toks) y _ (TK _ M) ⟨.none,.none,?_⟩ q);rw[z];exact eR _ rfl
 show wpAny _ _ (callWith cpos (.builtin "dict.items") [.ref d] [] []) _ X.xe Y;exact method_meetsIn N0 F.entry_dict_items rfl (Tw ⟨rfl,O.dictOf.typeIs,F.args_dict_items_1 _,_,meets_dict_items (cX X.prog X.w) d D,⟨vs,O.dictOf⟩,fin⟩)
end
def Wf(K:W.Frag)(a:Addr):It:=
 ⟨λi H=>∃(xs:List V) (x:V),dn K H a xs/\xs[i]?=some x,λi H v Y=>∃T x,v=.ref T/\H T=none/\Y=upd H T (.tup [.int (i:Nat),x])/\∀xs,dn K H a xs->xs[i]?=some x,λi H=>∃xs:List V,dn K H a xs/\xs.length<=i⟩
theorem Wc{P:Program}{w:World}{K:W.Frag}(a e it:Addr) :
  Turn P w K (.Tuple elts kk tpos) (Wf K a) [e,it] e (λi h=>(∃Y,IsEnum h e it ((i:Nat):Int) Y)/\h.IsListIter it a i/\e≠it) where
 mem:=by simp
 obj:=λi h st b T=>by
  mleft;obtain⟨⟨Y,O⟩,⟨o,C,B,hd⟩,_⟩:=st;mright;have y:b=e\/b=it:=by simpa using T
  rcases y with z|z
  .rw[z];exact⟨_,O,λv q=>nomatch q⟩
  rw[z];exact⟨o,C,λv q=>by rw[hd]at q;cases q⟩
 keep:=λi h h' st k=>let ⟨⟨Y,O⟩,hi,U⟩:=st;⟨⟨Y,k e aP _ O⟩,hi.at λo q=>k it aP o q,U⟩
 item:=by
  intro X r n m B i pins s σ H E I G st l;subst r n m;mleft;obtain⟨⟨Y,O⟩,N,U⟩:=st;mright;mleft;obtain⟨xs,x,D,j⟩:=l;mright;mleft;obtain⟨g,f,p,hz⟩:=I.list D;mright;obtain⟨u,hu,ru⟩:=f.get j;have L:e<s.heap.objs.size:=bV O;have d:it<s.heap.objs.size:=by obtain⟨_,q,_⟩:=N;exact bV q
  refine wpAny_pyNext_enum_item O N p.isList (x:=u) (by simpa using hu) U λh' C J hT hsz hk=>?_
  refine⟨_,rfl,wpAny_letOwnedTupleGo_enum (s:={ s with heap:=h',toks:=s.toks+1 }) C λM c sb=>?_⟩
  have ab:M.get? s.heap.objs.size=some { cls:=.type "tuple",data:=.seq #[.int i s.toks,u] }:=(sb.2 _ (Aw L)).trans hT;have al:dH X.prog X.w (upd H s.heap.objs.size (.tup [.int (i:Nat),x])) M s.heap.objs.size (.tup [.int (i:Nat),x]):=
   ⟨by show 2<=sizeLine;decide,[.int i s.toks,u],.cons ⟨_,rfl⟩ (.cons ru .nil),⟨_,ab,rfl,_,rfl⟩⟩
  have I1:Inv X pins σ (upd H s.heap.objs.size (.tup [.int (i:Nat),x])) { s with heap:=M,toks:=s.toks+1 }:=
   I.Dk (ch:=[e,it]) (λb ob T q=>(sb.2 b (λz=>T (by simp[z]))).trans (hk b ob (λz=>T (by simp[z])) (λz=>T (by simp[z])) q)) G (bD _) al
  refine⟨.ref s.heap.objs.size,_,I1,rfl,⟨_,x,rfl,I.aQ.fresh (bD _),rfl,λys hy=>by rw[I.Hj hy D];exact j⟩,⟨⟨u,?_⟩,J.at λo q=>(sb.2 it (bq U)).trans q,U⟩,λb T=>?_⟩
  .have e1:((i+1:Nat):Int)=(i:Int)+1:=by lia
   rw[e1];exact c
  have am:b<s.heap.objs.size:=by
   have y:b=e\/b=it:=by simpa using T
   rcases y with z|z
   .rw[z];exact L
   rw[z];exact d
  rw[aj (fZ am)];exact(G b T).1
 done:=by
  intro X r n m B i pins s σ H E I G st l;subst r n m;mleft;obtain⟨⟨Y,O⟩,N,U⟩:=st;mright;obtain⟨xs,D,j⟩:=l;mleft;obtain⟨g,f,p,hz⟩:=I.list D;mright;mleft;obtain⟨f0,f1,f2,f3,f4,f5⟩:=G it aP;mright;have hl:=f.length;exact wpAny_pyNext_enum_end (I.ok.hd B) O N p.isList (by simp;lia) λh' eb=>⟨rfl,I.turned (t':=s.toks) (λb o T q=>eb b o T q) f0 f1 f3 f4 f5⟩
 self:=λA i s Q E st h=>let ⟨⟨_,O⟩,_⟩:=st;wpAny_pyIter_enum O h
def Nq(K:W.Frag)(ta:TA):TI:=λσ H R=>ta σ H λvs H1=>∃a xs,vs=[.ref a]/\dn K H1 a xs/\R (Wf K a) H1
theorem gB{X:Cx}{e:Expr}{p:Pos}(M:Gl X "enumerate")(L:X.mg "enumerate"=none)(J:PA X [e] ta)(G:starEach [e] X.env=[(false,eval e X.env)]:=by rfl) :
  PI X (.Tuple elts kk tpos) (.Call (.Name "enumerate" p) [e] [] pos) (Nq X.K ta):=by
 intro pins s σ H R I h;refine Call_ (wC I M L boot_enumerate (Ji (aZ (J pos pins s σ H _ I h) λus Y Q=>?_) G rfl));mleft;obtain⟨vs,H1,T,E,D⟩:=Q;mright;mleft;obtain⟨a,xs,C,B,q⟩:=D;mright;subst C;cases E with
 |cons r A =>
  cases A;cases r;mleft;obtain⟨y,l,v,hz⟩:=T.list B;mright;refine call_enumerate_list v.isList λh' N O hsz u=>wpAny_pyIter_enum N ?_;have o:Inv X pins σ H1 { Y with heap:=h' }:=T.kept (t':=Y.toks) u
  refine⟨Y.heap.objs.size+1,[Y.heap.objs.size+1,Y.heap.objs.size],_,_,H1,rfl,o,Wc a (Y.heap.objs.size+1) Y.heap.objs.size,⟨⟨.none,N⟩,O,Nat.succ_ne_self _⟩,λb n=>?_,q⟩;have m:b=Y.heap.objs.size+1\/b=Y.heap.objs.size:=by simpa using n
  have U:Y.heap.objs.size<=b:=by
   rcases m with z|z
   .rw[z];exact Nat.le_add_right _ _
   rw[z];exact bD _
  exact T.Gw U (T.aQ.fresh U)
end
end L2
section
namespace Yu
open PySem PyProof.Rows
theorem Jp(k:Nat):∀a b:Nat,a<2 ^ k->a &&& (b*2 ^ k)=0:=by
 induction k with
 |zero =>
  intro a b h;have U:a=0:=by
   rw[Nat.pow_zero]at h;lia
  subst U;simp
 |succ k T =>
  intro a b h;have Q:(b*2 ^ (k+1))=(b*2 ^ k)*2:=by rw[yp,Eu]
  have Y:a / 2<2 ^ k:=by
   rw[yp]at h;generalize 2 ^ k=m at h ⊢;lia
  have i:=T (a / 2) b Y;rw[Q];generalize b*2 ^ k=B at i ⊢;have e:(a &&& (B*2)) / 2=a / 2 &&& (B*2) / 2:=Nat.and_div_two;have O:(B*2) / 2=B:=by lia
  have o:=@Nat.and_mod_two_eq_one a (B*2);rw[O,i]at e;lia
theorem JT(m k:Nat):(m:Int)*2 ^ k=((m*2 ^ k:Nat):Int):=by
 rw[two_pow_cast];first
  |exact(TV _ _).symm
  |simp
theorem UE{a b:Int}{k:Nat}(Y:0<=a)(U:a<2 ^ k)(T:0<=b):Builtin.bitOr a (b*2 ^ k)=a+b*2 ^ k:=by
 obtain⟨n,rfl⟩:=Zs Y;obtain⟨m,rfl⟩:=Zs T;have Q:n<2 ^ k:=by
  rw[two_pow_cast]at U;lia
 have e:Builtin.bitAnd (n:Int) ((m*2 ^ k:Nat):Int)=0:=by
  rw[bitAnd_pp ao ao,nc,nc,Jp k n m Q]<;>rfl
 rw[JT,bitOr_and,e];lia
theorem X1{x y:Int}(Y:0<=x)(U:0<=y):Builtin.bitOr x y=((x.toNat ||| y.toNat:Nat):Int):=by
 have e:=nat_or_add_and x.toNat y.toNat;rw[bitOr_and,bitAnd_pp Y U];lia
end Yu
end
namespace L2
open PySem PySem.Spec PyProof.Rows
section
variable{qual:Str}{st:Stmt}
def inClass(s:Stmt)(j:Nat):Stmt:=match s with
 |.ClassDef _ _ _ Y _ _ _ _ _ _ _=>Y.getD j (.Pass ⟨0,0,0,0⟩)
 |_=>.Pass ⟨0,0,0,0⟩
def EO(s:Stmt):Arguments:=match s with
 |.FunctionDef _ a _ _ _ _ _ _ _ _=>a
 |_=>{ posonlyargs:=[],args:=[],vararg:=none,kwonlyargs:=[],kw_defaults:=[],kwarg:=none,defaults:=[] }
def vc(s:Stmt):List Stmt:=match s with
 |.FunctionDef _ _ b _ _ _ _ _ _ _=>b
 |_=>[]
def az(s:Stmt):Scope:=match s with
 |.FunctionDef _ _ _ _ _ _ Y _ _ _=>Y
 |_=>{ kind:=.function,names:=[],isGenerator:=false,isCoroutine:=false }
abbrev bX:sO:=λ_ _ _ _ _ _=>False
abbrev E0:XK:=λ_ _ _=>False
theorem aC{X:Cx}:Passes bX X E0:=λ_ _ _ _ _ _ _ h=>h.elim
structure bJ(K:W.Frag)(x qual:Str)(st:Stmt)(f:Addr)(fd:FuncData):Prop where
 ex:∃(oc:Value) (od:Option Addr) (kV doc pm:Value) (an:Option Addr) (cdv ct:Value) (osl:Array (Option Value)),
  fd=W.fnOf x qual (EO st) (vc st) (az st) .none kV doc pm an cdv ct/\K.lookup f=some ⟨oc,od,.func fd,osl⟩/\W.codeIn K cdv qual=true
 kp:W.keepIn K (.ref f)=true
section
variable{P:Program}{w:World}{K:W.Frag}{mg:Str->Option Value}{base:Heap}
theorem bJ.ok{x:Str}{f:Addr}{L:FuncData}{N ps:List Str}{k:Nat}{sp:Sp}(F:bJ K x qual st f L)(S:aD N ps (az st))(len:∀vs H Q E,sp vs H Q E->vs.length=ps.length)
  (T:∀(U:Value) (A:Around) (Y:List Env) (s:Shared) (H:Hp) (vs:List V) (Q:VK) (E:XK),fc k (A.deeper (envOfC qual (az st) s.heap.objs.size f U))->sp vs H Q E->
   ∃t,uM (vO bX P w K mg base N qual (az st) f U A Y s H E).Ox (vc st) t/\t { nx:=λ_ J=>Q .aX J,rt:=Q } (start N vs) H):aM P w K mg base bX (k+1) f L ps sp:=by
 mleft;obtain⟨D,C,kV,I,B,z,U,y,G,rfl,lk,O⟩:=F.ex;mright;refine YA lk O S len λA Y s H vs Q E hr M=>?_;obtain⟨t,h,q⟩:=T U A Y s H vs Q E hr M;exact⟨t,h.Ox,q⟩
theorem bJ.binds{x:Str}{f:Addr}{N:FuncData}{ps:List Str}(F:bJ K x qual st f N)
  (h:∀(kV Y T:Value) (Q:Option Addr) (U O:Value) (us:List Value),us.length=ps.length->bindArgs (W.fnOf x qual (EO st) (vc st) (az st) .none kV Y T Q U O) ⟨us,[]⟩=pure (ps.zip us)):Binds K N ps []:=by
 mleft;obtain⟨J,I,kV,Y,T,Q,U,O,M,rfl,lk,L⟩:=F.ex;mright;exact .all (h kV Y T Q U O)
theorem aJ{x:Str}{f:Addr}{M:Value}{L Q:Option Addr}{T:Array (Option Value)}{kV U O Y N:Value}(l:K.lookup f=some ⟨M,L,.func (W.fnOf x qual (EO st) (vc st) (az st) .none kV U O Q Y N),T⟩)
  (c:W.codeIn K Y qual=true) (k:W.keepIn K (.ref f)=true):bJ K x qual st f (W.fnOf x qual (EO st) (vc st) (az st) .none kV U O Q Y N):=⟨⟨M,L,kV,U,O,Q,Y,N,T,rfl,l,c⟩,k⟩
end
section
variable{X:Cx}
theorem pv(i:Nat){x:Str}{Y:Pos}(T:X.N[i]?=some x:=by rfl)(Q:RH X.env.scope x:=by first|exact Or.inl rfl|exact Or.inr (Or.inl rfl)|exact Or.inr (Or.inr rfl))(hd:(x==("__debug__":Str))=false:=by decide)
  (U:(x==("__classdict__":Str))=false:=by decide):PE X (.Name x Y) (kF i):=VW T Q hd U
end
def aw(H Y:Hp):Prop:=∀b o,H b=some o->Y b=some o
theorem aw.refl(H:Hp):aw H H:=λ_ _ h=>h
theorem aw.trans{H H1 H2:Hp}(a:aw H H1)(b:aw H1 H2):aw H H2:=λc o h=>b c o (a c o h)
theorem aw.free{H Y:Hp}(e:aw H Y){l:Addr}(h:Y l=Option.none):H l=Option.none:=by
 cases q:H l with
 |none=>rfl
 |some o =>
  rw[e l o q]at h;cases h
theorem aw.seq{K:W.Frag}{H Y:Hp}{a:Addr}{xs:List V}(e:aw H Y)(h:dn K H a xs):dn K Y a xs:=by
 rcases h with(h|⟨o,h⟩)|h
 .exact .inl (.inl (e _ _ h))
 .exact .inl (.inr ⟨o,e _ _ h⟩)
 exact .inr h
section
variable{κ:Type}[DecidableEq κ]
theorem Z7{Y:List (κ×V)}{k:κ}{v:V}(h:eU Y k=some v):k∈Y.map (·.1):=by
 have q:(Y.any λU=>decide (U.1=k))=true:=by
  rw[Ai,h];all_goals rfl
 obtain⟨p,T,e⟩:=xC.mp q;exact bS.mpr ⟨p,T,of_decide_eq_true e⟩
theorem Vo{p:κ×V}{r:List (κ×V)}{k:κ}(e:p.1=k):gh (p::r) k=gh r k:=by
 unfold gh;rw[N6,ae (by simp[e])]
theorem Ml{p:κ×V}{r:List (κ×V)}{k:κ}(e:¬p.1=k):gh (p::r) k=p::gh r k:=by
 unfold gh;rw[N6,ag (by simp[e])]
theorem Qh:∀{Y:List (κ×V)} {k:κ},¬k∈Y.map (·.1)->gh Y k=Y
 |[],_,_=>rfl
 |p::r,k,h=>by
  have h':¬k∈r.map (·.1):=λm=>by
   obtain⟨q,U,e⟩:=bS.mp m;exact h (bS.mpr ⟨q,b0.mpr (Or.inr U),e⟩)
  rw[Ml λe=>h (bS.mpr ⟨p,b0.mpr (Or.inl rfl),e⟩),Qh h']
end
end
section
open PySem.W (WData Codec OpenSpec Well WellAll ReadsW ReadsAllW)
mutual
inductive Dw(K:W.Frag)(H:Hp):V->WData->Prop
 |aX:Dw K H .aX .none
 |bl (b:Bool):Dw K H (.bl b) (.bool b)
 |int (i:Int):Dw K H (.int i) (.int i)
 |str (x:Str):Dw K H (.str x) (.str x)
 |qR (b:Array UInt8):Dw K H (.qR b) (.bytes b.toList)
 |lst {a:Addr} {xs:List V} {ds:List WData}:dn K H a xs->n8 K H xs ds->Dw K H (.ref a) (.list ds)
 |tup {a:Addr} {xs:List V} {ds:List WData}:uN K H a xs->n8 K H xs ds->Dw K H (.ref a) (.tuple ds)
inductive n8(K:W.Frag)(H:Hp):List V->List WData->Prop
 |nil:n8 K H [] []
 |cons {v:V} {vs:List V} {d:WData} {ds:List WData}:Dw K H v d->n8 K H vs ds->n8 K H (v::vs) (d::ds)
end
theorem So{K:W.Frag}{H:Hp}:∀Y:List Int,n8 K H (Y.map V.int) (Y.map WData.int)
 |[]=>.nil
 |n::r=>.cons (.int n) (So r)
theorem SN{K:W.Frag}{H:Hp}:∀(Y:List Int) (xs:List V),n8 K H xs (Y.map WData.int)->xs=Y.map V.int
 |[],xs,h=>by
  cases h;rfl
 |n::r,xs,h=>by
  cases h with
  |cons U T =>
   cases U;rw[SN r _ T]<;>rfl
section
variable{P:Program}{w:World}{K:W.Frag}{H:Hp}{h:Heap}{R:W.WRecords}{cl:Str->Option Addr}
theorem abe{a:Addr}{xs:List V}(aQ:fH P w H h)(T:K.In h)(q:dn K H a xs):∃(Y:List Value) (o:Obj) (n:Nat),Vals xs Y/\h.get? a=some o/\o.cls=.type "list"/\o.data=.seq Y.toArray n:=by
 rcases q with q|⟨o,Y,n,e,Q,_,hd,_,U⟩
 .mleft;obtain⟨_,Y,n,U,e⟩:=(show dH P w H h a (.lst xs)from q.ok aQ);mright;exact⟨Y,_,n,U,e,rfl,rfl⟩
 exact⟨Y.toList,o,n,U,T _ _ e,Q,by simp[hd]⟩
theorem abO{a:Addr}{xs:List V}(aQ:fH P w H h)(Q:K.In h)(q:uN K H a xs):∃(Y:List Value) (o:Obj) (n:Nat),Vals xs Y/\h.get? a=some o/\o.cls=.type "tuple"/\o.data=.seq Y.toArray n:=by
 rcases q with q|⟨o,Y,n,e,U,hd,_,T⟩
 .mleft;obtain⟨_,Y,T,o,e,U,n,hd⟩:=(show dH P w H h a (.tup xs)from q.ok aQ);mright;exact⟨Y,o,n,T,e,U,hd⟩
 exact⟨Y.toList,o,n,T,Q _ _ e,U,by simp[hd]⟩
mutual
theorem Dw.reads(aQ:fH P w H h)(KX:K.In h):∀(d:WData) (v:V) (u:Value),Dw K H v d->RelV v u->∃as,ReadsW R cl h u d as
 |.none,_,_,x,r=>by
  cases x;cases r;exact⟨_,ReadsW.none⟩
 |.bool b,_,_,x,r=>by
  cases x;cases r;exact⟨_,ReadsW.bool b⟩
 |.int i,_,_,x,r=>by
  cases x;obtain⟨t,rfl⟩:=r;exact⟨_,ReadsW.int i t⟩
 |.str s,_,_,x,r=>by
  cases x;obtain⟨t,rfl⟩:=r;exact⟨_,ReadsW.str s t⟩
 |.bytes b,_,_,x,r=>by
  cases x;obtain⟨t,rfl⟩:=r;exact⟨_,ReadsW.bytes _ t⟩
 |.list ds,_,_,x,r=>by
  cases x with
  |lst hs ha =>
   cases r;mleft;obtain⟨its,o,n,rv,ho,hc,hd⟩:=abe aQ KX hs;mright;obtain⟨as,hr⟩:=Dw.readsAll aQ KX ds _ its ha rv;exact⟨_,ReadsW.list ho hc hd hr⟩
 |.tuple ds,_,_,x,r=>by
  cases x with
  |tup hs ha =>
   cases r;mleft;obtain⟨its,o,n,rv,ho,hc,hd⟩:=abO aQ KX hs;mright;obtain⟨as,hr⟩:=Dw.readsAll aQ KX ds _ its ha rv;exact⟨_,ReadsW.tuple ho hc hd hr⟩
 |.float _,_,_,x,_=>by cases x
 |.dict _,_,_,x,_=>by cases x
 |.bytearray _,_,_,x,_=>by cases x
 |.set _,_,_,x,_=>by cases x
 |.frozenset _,_,_,x,_=>by cases x
 |.obj _ _,_,_,x,_=>by cases x
theorem Dw.readsAll(aQ:fH P w H h)(KX:K.In h):∀(ds:List WData) (vs:List V) (us:List Value),n8 K H vs ds->Vals vs us->∃as,ReadsAllW R cl h us ds as
 |[],_,_,x,r=>by
  cases x;cases r;exact⟨_,ReadsAllW.nil⟩
 |d::ds,_,_,x,r=>by
  cases x with
  |cons h1 h2 =>
   cases r with
   |cons r1 r2 =>
    obtain⟨as,q1⟩:=Dw.reads aQ KX d _ _ h1 r1;obtain⟨bs,q2⟩:=Dw.readsAll aQ KX ds _ _ h2 r2;exact⟨_,ReadsAllW.cons q1 q2⟩
end
end
mutual
def xt:WData->Bool
 |.none=>true
 |.bool _=>true
 |.int _=>true
 |.str _=>true
 |.bytes _=>true
 |.list xs=>ud xs
 |.tuple xs=>ud xs
 |_=>false
def ud:List WData->Bool
 |[]=>true
 |x::r=>xt x&&ud r
end
theorem Oy{α:Type}{f:α->WData}(h:∀a,xt (f a)=true):∀l:List α,ud (l.map f)=true
 |[]=>rfl
 |x::r=>by
  show(xt (f x)&&ud (r.map f))=true;rw[h x,Oy h r]<;>rfl
theorem sX:∀(c:Codec) (a:c.denote),xt (c.enc a)=true
 |.unit,_=>rfl
 |.bool,_=>rfl
 |.int _ _,_=>rfl
 |.nat _ _,_=>rfl
 |.u8,_=>rfl
 |.bytes _ _,_=>rfl
 |.text _ _ _ _,_=>rfl
 |.list _ _ c,a=>Oy (λx=>sX c x) a
 |.pair c d,a=>by
  show(xt (c.enc a.1)&&(xt (d.enc a.2)&&true))=true;rw[sX c a.1,sX d a.2]<;>rfl
 |.triple c d e,a=>by
  show(xt (c.enc a.1)&&(xt (d.enc a.2.1)&&(xt (e.enc a.2.2)&&true)))=true;rw[sX c a.1,sX d a.2.1,sX e a.2.2]<;>rfl
 |.option c,none=>rfl
 |.option c,some x=>sX c x
theorem LG:∀(Y:List Codec) (a:Codec.denoteAll Y),ud (Codec.encAll Y a)=true
 |[],_=>rfl
 |c::Y,a=>by
  show(xt (c.enc a.1)&&ud (Codec.encAll Y a.2))=true;rw[sX c a.1,LG Y a.2]<;>rfl
theorem z6:∀{xs:List WData} {d:WData},d∈xs->d.weight<=WData.weightAll xs
 |[],d,h=>absurd h aP
 |x::r,d,h=>by
  show d.weight<=x.weight+1+WData.weightAll r;rcases b0.mp h with e|m
  .rw[e];lia
  have z:=z6 m;lia
def toV:Value->V
 |.none=>.aX
 |.bool b=>.bl b
 |.int i _=>.int i
 |.str x _=>.str x
 |.bytes b _=>.qR b
 |.ref a=>.ref a
 |_=>.aX
def zR(A:List Addr):Value->Prop
 |.none=>True
 |.bool _=>True
 |.int _ _=>True
 |.str _ _=>True
 |.bytes _ _=>True
 |.ref a=>a∈A
 |_=>False
theorem zR.mono{A B:List Addr}(h:∀a∈A,a∈B):∀{u:Value},zR A u->zR B u:=λ{u} x=>by
 cases u with
 |ref a=>exact h a x
 |none=>trivial
 |bool b=>trivial
 |int i t=>trivial
 |str s t=>trivial
 |bytes b t=>trivial
 |_=>exact False.elim x
theorem Yb{A:List Addr}{u:Value}(x:zR A u):RelV (toV u) u:=by
 cases u with
 |ref a=>rfl
 |none=>rfl
 |bool b=>rfl
 |int i t=>exact⟨t,rfl⟩
 |str s t=>exact⟨t,rfl⟩
 |bytes b t=>exact⟨t,rfl⟩
 |_=>exact False.elim x
theorem rR{A:List Addr}:∀{vs:List Value},(∀u∈vs,zR A u)->Vals (vs.map toV) vs
 |[],_=>.nil
 |u::r,h=>.cons (Yb (h u (df ..))) (rR λx Y=>h x (cF _ Y))
def oa(h:Heap)(A:List Addr)(a:Addr):Prop:=∃vs:List Value,vs.length<=sizeLine/\(∀u∈vs,zR A u)/\
 (h.get? a=some { cls:=.type "list",data:=.seq vs.toArray }\/h.get? a=some { cls:=.type "tuple",data:=.seq vs.toArray })
theorem oa.mono{h:Heap}{A B:List Addr}{a:Addr}(k:∀a∈A,a∈B)(x:oa h A a):oa h B a:=by
 mleft;obtain⟨vs,Y,U,T⟩:=x;mright;exact⟨vs,Y,λu Q=>(U u Q).mono k,T⟩
theorem sE{P:Params}{h:Heap}:∀{vs:List Value} {Y:List WData},WellAll P h vs Y->vs.length=Y.length
 |_,_,.nil=>rfl
 |_,_,.cons _ b=>by
  show _+1=_+1;rw[sE b]
theorem LN{P:Params}{h:Heap}{v:Value}{ds:List WData}(x:Well P h v (.list ds)):∃(a:Addr) (vs:List Value),v=.ref a/\h.get? a=some { cls:=.type "list",data:=.seq vs.toArray }/\WellAll P h vs ds:=by
 cases x with
 |list U Y=>exact⟨_,_,rfl,U,Y⟩
theorem JE{P:Params}{h:Heap}{v:Value}{ds:List WData}(x:Well P h v (.tuple ds)):∃(a:Addr) (vs:List Value),v=.ref a/\h.get? a=some { cls:=.type "tuple",data:=.seq vs.toArray }/\WellAll P h vs ds:=by
 cases x with
 |tuple U Y=>exact⟨_,_,rfl,U,Y⟩
theorem K6{P:Params}{h:Heap}{us:List Value}{d:WData}{ds:List WData}(x:WellAll P h us (d::ds)):∃(v:Value) (vs:List Value),us=v::vs/\Well P h v d/\WellAll P h vs ds:=by
 cases x with
 |cons a b=>exact⟨_,_,rfl,a,b⟩
theorem Sx{n:Nat}(h:n<=1048576):n<=sizeLine:=bT h aG
section
variable{P:Params}{h:Heap}
mutual
theorem XM:∀(d:WData) (v:Value),Well P h v d->xt d=true->d.weight<=1048576->∃A:List Addr,zR A v/\∀a∈A,oa h A a
 |.none,_,x,_,_=>by
  cases x;exact⟨[],trivial,λa m=>absurd m aP⟩
 |.bool b,_,x,_,_=>by
  cases x;exact⟨[],trivial,λa m=>absurd m aP⟩
 |.int i,_,x,_,_=>by
  cases x;exact⟨[],trivial,λa m=>absurd m aP⟩
 |.str s,_,x,_,_=>by
  cases x;exact⟨[],trivial,λa m=>absurd m aP⟩
 |.bytes b,_,x,_,_=>by
  cases x;exact⟨[],trivial,λa m=>absurd m aP⟩
 |.list ds,_,x,p,z=>by
  mleft;obtain⟨a,vs,rfl,ho,hall⟩:=LN x;mright;have z2:WData.weightAll ds<=1048576:=z;obtain⟨A,h1,h2⟩:=AF ds _ hall p λd hd=>bT (z6 hd) z2;have k:∀b∈A,b∈a::A:=λb hb=>cF _ hb;refine⟨a::A,df ..,λb hb=>?_⟩;rcases b0.mp hb with e|m
  .rw[e];exact⟨vs,Sx (by rw[sE hall];exact bT (W.length_le_weightAllW ds) z2),λu hu=>(h1 u hu).mono k,.inl ho⟩
  exact(h2 b m).mono k
 |.tuple ds,_,x,p,z=>by
  mleft;obtain⟨a,vs,rfl,ho,hall⟩:=JE x;mright;have z2:WData.weightAll ds<=1048576:=z;obtain⟨A,h1,h2⟩:=AF ds _ hall p λd hd=>bT (z6 hd) z2;have k:∀b∈A,b∈a::A:=λb hb=>cF _ hb;refine⟨a::A,df ..,λb hb=>?_⟩;rcases b0.mp hb with e|m
  .rw[e];exact⟨vs,Sx (by rw[sE hall];exact bT (W.length_le_weightAllW ds) z2),λu hu=>(h1 u hu).mono k,.inr ho⟩
  exact(h2 b m).mono k
 |.float _,_,_,p,_=>Bool.noConfusion (show false=true from p)
 |.dict _,_,_,p,_=>Bool.noConfusion (show false=true from p)
 |.bytearray _,_,_,p,_=>Bool.noConfusion (show false=true from p)
 |.set _,_,_,p,_=>Bool.noConfusion (show false=true from p)
 |.frozenset _,_,_,p,_=>Bool.noConfusion (show false=true from p)
 |.obj _ _,_,_,p,_=>Bool.noConfusion (show false=true from p)
theorem AF:∀(ds:List WData) (vs:List Value),WellAll P h vs ds->ud ds=true->(∀d∈ds,d.weight<=1048576)->∃A:List Addr,(∀u∈vs,zR A u)/\∀a∈A,oa h A a
 |[],_,x,_,_=>by
  cases x;exact⟨[],λu m=>absurd m aP,λa m=>absurd m aP⟩
 |d::ds,_,x,p,z=>by
  mleft;obtain⟨v,vs,rfl,x1,x2⟩:=K6 x;mright;have q:xt d=true/\ud ds=true:=YJ.mp p;obtain⟨A,a1,a2⟩:=XM d v x1 q.1 (z d (df ..));obtain⟨B,b1,b2⟩:=AF ds vs x2 q.2 λe he=>z e (cF _ he);have kA:∀b∈A,b∈A++B:=λb hb=>lV.mpr (.inl hb);have kB:∀b∈B,b∈A++B:=λb hb=>lV.mpr (.inr hb);refine⟨A++B,λu hu=>?_,λb hb=>?_⟩
  .rcases b0.mp hu with e|m
   .rw[e];exact a1.mono kA
   exact(b1 u m).mono kB
  rcases lV.mp hb with m|m
  .exact(a2 b m).mono kA
  exact(b2 b m).mono kB
end
end
def TB(o:Obj):Option HO:=match o.data with
 |.seq vs _=>if (o.cls==Value.type "list")=true then some (.cV o (.lst (vs.toList.map toV)))else some (.cV o (.tup (vs.toList.map toV)))
 |_=>none
def kH(K:W.Frag)(h:Heap)(A:List Addr):Hp:=λb=>if b∈A then(if (K.lookup b).isNone=true then(h.get? b).bind TB else none)else none
def Jt(H:Hp):Prop:=∀b,H b=none\/∃o u,H b=some (.cV o u)
theorem Oj(vs:List Value):TB { cls:=.type "list",data:=.seq vs.toArray }=some (.cV { cls:=.type "list",data:=.seq vs.toArray } (.lst (vs.map toV))):=by
 show(if (Value.type "list"==Value.type "list")=true then some (HO.cV { cls:=.type "list",data:=.seq vs.toArray } (.lst (vs.toArray.toList.map toV)))else some (HO.cV { cls:=.type "list",data:=.seq vs.toArray } (.tup (vs.toArray.toList.map toV))))=_
 rw[ag (EW _)]
theorem OY(vs:List Value):TB { cls:=.type "tuple",data:=.seq vs.toArray }=some (.cV { cls:=.type "tuple",data:=.seq vs.toArray } (.tup (vs.map toV))):=by
 show(if (Value.type "tuple"==Value.type "list")=true then some (HO.cV { cls:=.type "tuple",data:=.seq vs.toArray } (.lst (vs.toArray.toList.map toV)))else some (HO.cV { cls:=.type "tuple",data:=.seq vs.toArray } (.tup (vs.toArray.toList.map toV))))=_
 rw[ae aG]
section
variable{P:Program}{w:World}{K:W.Frag}{h:Heap}{A:List Addr}
theorem Ew{b:Addr}{o:Obj}(Y:b∈A)(U:K.lookup b=none)(e:h.get? b=some o):kH K h A b=TB o:=by
 unfold kH;rw[ag Y,U,ag (show(none:Option Obj).isNone=true from rfl),e]<;>rfl
theorem aai{b:Addr}{u:HO}(q:kH K h A b=some u):b∈A/\K.lookup b=none:=by
 unfold kH at q;by_cases Y:b∈A
 .rw[ag Y]at q;cases U:K.lookup b with
  |none=>exact⟨Y,rfl⟩
  |some o =>
   rw[U,ae aP]at q;cases q
 rw[ae Y]at q;cases q
theorem EG(T:∀a∈A,oa h A a){b:Addr}{u:HO}(q:kH K h A b=some u):K.lookup b=none/\∃vs:List Value,vs.length<=sizeLine/\(∀u∈vs,zR A u)/\
  ((h.get? b=some { cls:=.type "list",data:=.seq vs.toArray }/\u=.cV { cls:=.type "list",data:=.seq vs.toArray } (.lst (vs.map toV)))\/
   (h.get? b=some { cls:=.type "tuple",data:=.seq vs.toArray }/\u=.cV { cls:=.type "tuple",data:=.seq vs.toArray } (.tup (vs.map toV)))):=by
 obtain⟨Y,U⟩:=aai q;mleft;obtain⟨vs,Q,O,N⟩:=T b Y;mright;refine⟨U,vs,Q,O,?_⟩;rcases N with e|e
 .rw[Ew Y U e,Oj]at q;exact .inl ⟨e,(cp q).symm⟩
 rw[Ew Y U e,OY]at q;exact .inr ⟨e,(cp q).symm⟩
theorem VC(Y:∀a∈A,oa h A a):Jt (kH K h A):=λb=>by
 cases q:kH K h A b with
 |none=>exact .inl rfl
 |some u =>
  obtain⟨_,vs,_,_,⟨_,e⟩|⟨_,e⟩⟩:=EG Y q
  .exact .inr ⟨_,_,by rw[e]⟩
  exact .inr ⟨_,_,by rw[e]⟩
theorem aae(T:∀a∈A,oa h A a):fH P w (kH K h A) h:=λb u q=>by
 obtain⟨_,vs,Y,U,⟨e,rfl⟩|⟨e,rfl⟩⟩:=EG T q
 .exact⟨e,by rw[bG];exact Y,vs,_,rR U,e⟩
 exact⟨e,by rw[bG];exact Y,vs,rR U,_,e,rfl,_,rfl⟩
theorem ER{c c':Value}{vs us:List Value}(e:(some { cls:=c,data:=.seq vs.toArray }:Option Obj)=some { cls:=c',data:=.seq us.toArray }):c=c'/\vs=us:=by
 have Y:=cp e;have U:c=c':=mR Obj.cls Y;have T:Data.seq vs.toArray=Data.seq us.toArray:=mR Obj.data Y;injection T with Q
 refine⟨U,?_⟩;have O:=mR Array.toList Q;simpa using O
theorem ada(O:K.In h)(N:∀a∈A,oa h A a){a:Addr}{vs:List Value}(U:a∈A)(e:h.get? a=some { cls:=.type "list",data:=.seq vs.toArray }):(∀u∈vs,zR A u)/\dn K (kH K h A) a (vs.map toV):=by
 mleft;obtain⟨us,M,T,L⟩:=N a U;mright;have J:us=vs:=by
  rcases L with q|q
  .rw[e]at q;exact(ER q).2.symm
  rw[e]at q;exact absurd (Value.type.inj (ER q).1) aG
 subst J;refine⟨T,?_⟩;cases Y:K.lookup a with
 |none=>exact .inl (.inr ⟨_,by rw[Ew U Y e,Oj]⟩)
 |some o =>
  have Q:=O a o Y;rw[e]at Q;obtain rfl:=cp Q;exact .inr ⟨_,us.toArray,_,Y,rfl,rfl,rfl,by rw[eu];exact M,by simpa using rR T⟩
theorem ac0(O:K.In h)(N:∀a∈A,oa h A a){a:Addr}{vs:List Value}(U:a∈A)(e:h.get? a=some { cls:=.type "tuple",data:=.seq vs.toArray }):(∀u∈vs,zR A u)/\uN K (kH K h A) a (vs.map toV):=by
 mleft;obtain⟨us,M,T,L⟩:=N a U;mright;have J:us=vs:=by
  rcases L with q|q
  .rw[e]at q;exact absurd (Value.type.inj (ER q).1) aG
  rw[e]at q;exact(ER q).2.symm
 subst J;refine⟨T,?_⟩;cases Y:K.lookup a with
 |none=>exact .inl (.inr ⟨_,by rw[Ew U Y e,OY]⟩)
 |some o =>
  have Q:=O a o Y;rw[e]at Q;obtain rfl:=cp Q;exact .inr ⟨_,us.toArray,_,Y,rfl,rfl,by rw[eu];exact M,by simpa using rR T⟩
mutual
theorem abt{Pm:Params}(KX:K.In h)(ar:∀a∈A,oa h A a):∀(d:WData) (v:Value),Well Pm h v d->xt d=true->zR A v->Dw K (kH K h A) (toV v) d
 |.none,_,x,_,_=>by
  cases x;exact .aX
 |.bool b,_,x,_,_=>by
  cases x;exact .bl b
 |.int i,_,x,_,_=>by
  cases x;exact .int i
 |.str s,_,x,_,_=>by
  cases x;exact .str s
 |.bytes b,_,x,_,_=>by
  cases x;have z:=Dw.qR (K:=K) (H:=kH K h A) b.toArray;exact z
 |.list ds,_,x,p,hu=>by
  mleft;obtain⟨a,vs,rfl,ho,hall⟩:=LN x;mright;obtain⟨h2,hs⟩:=ada KX ar hu ho;exact .lst hs (J2 KX ar ds _ hall p h2)
 |.tuple ds,_,x,p,hu=>by
  mleft;obtain⟨a,vs,rfl,ho,hall⟩:=JE x;mright;obtain⟨h2,hs⟩:=ac0 KX ar hu ho;exact .tup hs (J2 KX ar ds _ hall p h2)
 |.float _,_,_,p,_=>Bool.noConfusion (show false=true from p)
 |.dict _,_,_,p,_=>Bool.noConfusion (show false=true from p)
 |.bytearray _,_,_,p,_=>Bool.noConfusion (show false=true from p)
 |.set _,_,_,p,_=>Bool.noConfusion (show false=true from p)
 |.frozenset _,_,_,p,_=>Bool.noConfusion (show false=true from p)
 |.obj _ _,_,_,p,_=>Bool.noConfusion (show false=true from p)
theorem J2{Pm:Params}(KX:K.In h)(ar:∀a∈A,oa h A a):∀(ds:List WData) (vs:List Value),WellAll Pm h vs ds->ud ds=true->(∀u∈vs,zR A u)->n8 K (kH K h A) (vs.map toV) ds
 |[],_,x,_,_=>by
  cases x;exact .nil
 |d::ds,_,x,p,hu=>by
  mleft;obtain⟨v,vs,rfl,x1,x2⟩:=K6 x;mright;have q:xt d=true/\ud ds=true:=YJ.mp p;exact .cons (abt KX ar d v x1 q.1 (hu _ (df ..))) (J2 KX ar ds vs x2 q.2 λu m=>hu u (cF _ m))
end
end
theorem VU{P:Program}{w:World}{K:W.Frag}{mg l:Str->Option Value}{CX:sO}{k:Nat}{fa:Addr}{fd:FuncData}{ps:List Str}{sp:Sp}{s₁:Shared}{Y:List Value}{N:List WData}{R:W.WRecords}{cl:Str->Option Addr}{d0:WData}
  (j:K.In s₁.heap) (I:s₁.heap.Ns mainGlobals mg) (i:s₁.heap.Ns builtinsNs l) (g:∀x:Str,x≠"__name__"->l x=bootBuiltins x) (G:s₁.heap.NoLimit) (hg:s₁.gens=#[])
  (M:WellAll w.params s₁.heap Y N) (E:ud N=true) (f:∀d∈N,d.weight<=1048576) (hr:fc k callerA)
  (F:∀base:Heap,K.In base->base.Ns mainGlobals mg->aM P w K mg base CX k fa fd ps sp) (L:∀(s:Shared) (us:List Value),us.length=ps.length->BindsTo s fd ⟨us,[]⟩ (ps.zip us)) (D:N.length=ps.length)
  (c:∀(H:Hp) (xs:List V),Jt H->n8 K H xs N->sp xs H (λv H'=>Dw K H' v d0) λ_ _ _=>False)
  (a:∀H e T,CX [] H s₁ (λ_ _ _=>False) e T->False) :
  codeAny (model P w) callerA (.call (.ref fa) ⟨Y,[]⟩) (λr T=>∃u as,r=.ok (.ret u)/\ReadsW R cl T.heap u d0 as/\OldK s₁.heap T.heap/\T.os=s₁.os/\AllBare T.gens) s₁:=by
 obtain⟨A,ho,C⟩:=AF N Y M E f;have hO:Jt (kH K s₁.heap A):=VC C;have aQ:fH P w (kH K s₁.heap A) s₁.heap:=aae C;have hS:=J2 j C N Y M E ho;have hV:=rR ho;have hK:∀b u,kH K s₁.heap A b=some u->K.lookup b=none:=λb u q=>(EG C q).1;have Ld:∀{b:Addr} {o:Obj} {J:Array DictEntry} {ep:Nat},s₁.heap.get? b=some o->o.data=.dict J ep->kH K s₁.heap A b=none:=λ{b o J ep} e d=>by
  cases q:kH K s₁.heap A b with
  |none=>rfl
  |some u =>
   obtain⟨_,vs,_,_,⟨B,_⟩|⟨B,_⟩⟩:=EG C q
   .rw[B]at e;cases e;have d':Data.seq vs.toArray _=Data.dict J ep:=d;cases d'
   rw[B]at e;cases e;have d':Data.seq vs.toArray _=Data.dict J ep:=d;cases d'
 generalize kH K s₁.heap A=H at hO aQ hS hK Ld;have U:∀{b:Addr} {o:Obj},s₁.heap.get? b=some o->H b=none->(Ax s₁.heap H).get? b=some o:=λe n=>Xv e n;have Q:∀{b:Addr} {m:Str->Option Value},s₁.heap.Ns b m->(Ax s₁.heap H).Ns b m:=λ{b m} ⟨o,J,ep,e,d,r⟩=>⟨o,J,ep,U e (Ld e d),d,r⟩;have nK:∀b o,K.lookup b=some o->H b=none:=λb o e=>by
  cases q:H b with
  |none=>rfl
  |some u =>
   rw[hK b u q]at e;cases e
 have y:K.In (Ax s₁.heap H):=λb o e=>U (j b o e) (nK b o e);have hM:Mod K mg (Ax s₁.heap H):=⟨y,Q I,⟨l,Q i,g⟩,let ⟨mc,h1,h2⟩:=G;⟨mc,Q h1,h2⟩⟩
 have e0:Gr P w K mg (Ax s₁.heap H) callerA [] s₁ H:=⟨rfl,hM,λb o e=>aaI e,yA (U2 _ _),trivial,λb i=>absurd (show b∈([]:List Addr)from i) aP,aQ,.of_eq hg⟩;have hl:Y.length=ps.length:=by rw[sE M];exact D
 refine Il ((F _ y (Q I)).run callerA [] s₁ H ⟨Y,[]⟩ Y (Y.map toV) _ _ hr e0 (L s₁ Y hl) hV (c H _ hO hS)) λr T x=>?_;cases r with
 |error e=>exact(a H e T x).elim
 |ok fl =>
  cases fl with
  |next=>exact False.elim x
  |brk=>exact False.elim x
  |cont=>exact False.elim x
  |ret u =>
   mleft;obtain⟨v,H',os,p,un,O,r',q⟩:=x;mright;have kept:∀b o,s₁.heap.get? b=some o->T.heap.get? b=some o:=λb o e=>by
    cases q2:H b with
    |none=>exact un.keep b o e q2 (by intro z;exact absurd (show b∈([]:List Addr)from z) aP) aP
    |some u2 =>
     rcases hO b with z|⟨ob,u3,z⟩
     .rw[q2]at z;cases z
     have z2:=un.qN b ob _ z;obtain⟨e1,_⟩:=aQ b _ z;obtain⟨B,_⟩:=O b _ z2;rw[e]at e1;cases e1;exact B
   have ab:K.In T.heap:=λb o e=>kept b o (j b o e);obtain⟨as,al⟩:=Dw.reads (R:=R) (cl:=cl) O ab d0 v u q r';exact⟨u,as,rfl,al,OldK.of_keep kept,os,p⟩
theorem Kl{Y:List WData}(h:WData.layableAll Y=true):∀d∈Y,d.weight<=1048576:=λd hd =>
 (W.layableW_iff.mp (jV.mp h d hd)).2.2
theorem Ib:∀(Y:List Codec) (a:Codec.denoteAll Y),(Codec.encAll Y a).length=Y.length
 |[],_=>rfl
 |c::Y,a=>by
  show(Codec.encAll Y a.2).length+1=Y.length+1;rw[Ib Y a.2]
theorem V1{r:OpenSpec}{k:Nat}{q:Program}{U:List Str}{j:(Str->Option Value)->Heap->Prop}{D:World->Heap->Prop}{d:DefRec}{K:Params->W.Frag}{CX:World->sO}{ps:List Str}{sp:World->Sp}
  (Q:r.wellSaid=true) (i:d.params.defaults=[]) (O:r.args.length=ps.length) (hr:fc k callerA)
  (c:∀(w:World) (h:Heap),D w h->(K w.params).In h)
  (F:∀(w:World) (mg:Str->Option Value) (I:Addr) (h:Heap),D w h->(K w.params).In h->h.Ns mainGlobals mg->mg d.name=some (.ref I)->
   ∃C:FuncData,(∀(s:Shared) (us:List Value),us.length=ps.length->BindsTo s C ⟨us,[]⟩ (ps.zip us))/\
    ∀base:Heap,(K w.params).In base->base.Ns mainGlobals mg->aM r.prog w (K w.params) mg base (CX w) k I C ps (sp w))
  (B:∀(w:World) (H:Hp) (xs:List V) (a:Codec.denoteAll r.args),Jt H->Codec.withinAll r.args a=true->Codec.app r.args r.asked a=true->n8 (K w.params) H xs (Codec.encAll r.args a)->
   sp w xs H (λv H'=>Dw (K w.params) H' v (r.ret.enc (Codec.app r.args r.f a))) λ_ _ _=>False)
  (A:∀(w:World) (H:Hp) (s:Shared) (e:Value) (E:Shared),CX w [] H s (λ_ _ _=>False) e E->False) :
  W.WalkOS q U j D r d [] (λf vs=>PySem.call f vs):=by
 intro w m7 N mg mb G Y I o pm cd ab dV kV ho hd al hD y hg args m as M L am p an;obtain⟨a,e1,e2⟩:=W.os_pre_some M;obtain⟨e3,J⟩:=Codec.encAll_of_decAll r.args args a e1;subst e3;have l:=c w _ Y;obtain⟨C,hb,hF⟩:=F w mg I _ Y l G.T.g y;refine W.enter_call (Il (VU (R:=[]) (cl:=classAt m7.heap) (d0:=r.ret.enc (Codec.app r.args r.f a)) l G.T.g G.T.b G.T.builtins G.T.nolimit hg p (LG _ _) (Kl L) hr hF hb (by rw[Ib];exact O)
  (λH xs hO hS=>B w H xs a hO J e2 hS) λH e E=>A w H N e E) λr' E hq=>?_)
 mleft;obtain⟨u,n,rfl,h1,h2,h3,h4⟩:=hq;mright;exact⟨.inl ⟨u,_,n,rfl,λ_=>rfl,h1,(OpenSpec.post_iff Q J _ _).mpr rfl,λz=>Bool.noConfusion (show false=true from z)⟩,h2,h3,h4⟩
theorem TF{r:OpenSpec}{k:Nat}{q:Program}{Y:List Str}{G:(Str->Option Value)->Heap->Prop}{Q:World->Heap->Prop}{d:DefRec}{K:Params->W.Frag}{CX:sO}{ps:List Str}{sp:W.Frag->Sp}
  (U:r.wellSaid=true) (O:d.params.defaults=[]) (T:r.args.length=ps.length) (hr:fc k callerA)
  (E:∀(w:World) (h:Heap),Q w h->(K w.params).In h)
  (F:∀(w:World) (mg:Str->Option Value) (J:Addr) (h:Heap),Q w h->(K w.params).In h->h.Ns mainGlobals mg->mg d.name=some (.ref J)->
   ∃I:FuncData,(∀(s:Shared) (us:List Value),us.length=ps.length->BindsTo s I ⟨us,[]⟩ (ps.zip us))/\
    ∀base:Heap,(K w.params).In base->base.Ns mainGlobals mg->aM r.prog w (K w.params) mg base CX k J I ps (sp (K w.params)))
  (N:∀(K:W.Frag) (H:Hp) (xs:List V) (a:Codec.denoteAll r.args),Jt H->Codec.withinAll r.args a=true->Codec.app r.args r.asked a=true->n8 K H xs (Codec.encAll r.args a)->
   sp K xs H (λv D=>Dw K D v (r.ret.enc (Codec.app r.args r.f a))) λ_ _ _=>False)
  (M:∀(H:Hp) (s:Shared) (e:Value) (L:Shared),CX [] H s (λ_ _ _=>False) e L->False) :
  W.WalkOS q Y G Q r d [] (λf vs=>PySem.call f vs):=
 V1 (K:=K) (CX:=λ_=>CX) (sp:=λw=>sp (K w.params)) U O T hr E F (λw H xs a C B A z=>N (K w.params) H xs a C B A z) λ_ H s e L=>M H s e L
end
end L2
namespace LX
open PySem PySem.Spec PyProof.Rows L2
section
variable{dx:Addr}{fl:Value}
structure Ex(h:Heap)(a:Addr)(C:Value)(dx:Addr)(hd:Value):Prop where
 ex:∃(oe:Obj) (vs:Array Value),h.get? a=some oe/\oe.cls=C/\oe.dict=some dx/\oe.data=.fields vs/\vs[1]?=some hd
def Tb(h:Heap)(T:Addr)(fl:Value):Prop:=∃(Y:Obj) (ts:Array Value),h.get? T=some Y/\Y.data=.fields ts/\ts[3]?=some fl
theorem Ex.keeps{h h':Heap}{a:Addr}{C hd:Value}(x:Ex h a C dx hd)(k:∀o,h.get? a=some o->h'.get? a=some o):Ex h' a C dx hd:=by
 mleft;obtain⟨Y,vs,e,r⟩:=x.ex;mright;exact⟨Y,vs,k _ e,r⟩
theorem Tb.keeps{h h':Heap}{T:Addr}(x:Tb h T fl)(k:∀o,h.get? T=some o->h'.get? T=some o):Tb h' T fl:=by
 mleft;obtain⟨Y,vs,e,r⟩:=x;mright;exact⟨Y,vs,k _ e,r⟩
inductive Sf(h:Heap)(a:Addr)(C:Value)(dx:Addr):Option Addr->Prop
 |first:Ex h a C dx .none->Sf h a C dx none
 |on {T:Addr} {fl:Value}:Ex h a C dx (.ref T)->Tb h T fl->T≠a->Sf h a C dx (some T)
theorem XW{o:Obj}{vs:Array Value}{f:Array Value->Array Value}(h:o.data=.fields vs):(Obj.mapFields f o).dict=o.dict:=by
 mleft;obtain⟨c,d,Y,U⟩:=o;mright;cases h;rfl
section
variable{M:Model}{A:Around}{E:b7}{s:Shared}
structure NW(fr:List Addr)(a:Addr)(C:Value)(dx:Addr)(fl:Value)(own:Option Addr)(h h':Heap):Prop where
 ex:∃T,Ex h' a C dx (.ref T)/\Tb h' T fl/\T≠a/\(h.objs.size<=T\/own=some T)
 keep:∀b o,h.get? b=some o->b∉fr->b≠a->own≠some b->h'.get? b=some o
 slot:∀b o,h.get? b=some o->b∈fr->b≠a->own≠some b->∃sl,h'.get? b=some { o with slots:=sl }
 there:∀b o,h.get? b=some o->∃o',h'.get? b=some o'
 size:h.objs.size<=h'.objs.size
theorem Qp{fr:List Addr}{h h':Heap}(z:Heap.SlotsOnly fr h h'):h.objs.size<=h'.objs.size:=by
 apply yA;first|exact z.1.symm|exact z.1
theorem Oa{base:Heap}{T:Env}{U:List Env}{L a:Addr}{C H:Value}{N:Bool}{Q:Unit->Shared->Prop}{p:Value}
  (n:A.frames=some (T::U)) (j:s.heap.FunFrames base (T::U)) (c:T.frame=some L) (hx:Ex s.heap a C dx p)
  (h:∀h',NW ((T::U).filterMap (·.frame)) a C dx (rawInt L) none s.heap h'->Q () { s with heap:=h' }) :
  wpAny M A (do let x <-frameOf T;let pl <-entryPlaceOf L N;let b <-EntryCells.newEntry H x .none (rawInt L) .none pl;setField (.ref a) 1 b) Q E s:=by
 mleft;obtain⟨oe,vs,i,hC,hD,hd,h1⟩:=hx.ex;mright;have hsz:1<vs.size:=(Oi.mp h1).1;have m:a∉(T::U).filterMap (·.frame):=λhm=>by
  mleft;obtain⟨_,o,g,l⟩:=j.mem hm;mright;rw[i]at g;cases g;exact l vs hd
 refine aA (wpAny_frameOf_fun n j c λY J=>?_);refine aA (wpAny_entryPlaceOf λpl G=>?_);unfold EntryCells.newEntry newFields;refine aA (z8 ?_ (G.sizeOk5 _ _ _ _ _));have D:Y.get? a=some oe:=(J.2.1 a m).trans i;generalize B:({ cls:=.type "traceback",dict:=none,data:=.fields ([H,.ref L,.none,rawInt L,.none]++(if pl.isEmpty then List.replicate 6 Value.none else pl)).toArray }:Obj)=ob
 have z:(Y.push ob).get? a=some oe:=cA _ D;refine Jb z hd hsz (h _ ?_);have y:Y.objs.size≠a:=Aw (bV D);have f:=Bj hd (·.setIfInBounds 1 (Value.ref Y.objs.size));have v:=uO (Obj.mapFields (·.setIfInBounds 1 (Value.ref Y.objs.size))) z (JF f);have u:((Y.push ob).update a (Obj.mapFields (·.setIfInBounds 1 (Value.ref Y.objs.size)))).get? Y.objs.size=some ob:=by
  rw[sg _ _ (bq y)];exact eR Y (by rw[<-B];rfl)
 have I:∀b o,b≠a->Y.get? b=some o->((Y.push ob).update a (Obj.mapFields (·.setIfInBounds 1 (Value.ref Y.objs.size)))).get? b=some o:=λb o r q=>by
  rw[sg _ _ (bq r)];exact cA _ q
 have sz:=Qp J;refine⟨⟨Y.objs.size,⟨_,_,v,?_,?_,f,by simp[hsz]⟩,⟨ob,_,u,by rw[<-B],?_⟩,y,.inl sz⟩,λb o q r O _=>?_,λb o q r O _=>?_,λb o q=>?_,?_⟩
 .rw[Obj.cls_mapFields];exact hC
 .rw[XW hd];exact hD
 .first
  |(simp;done)
  |(rcases G with rfl|⟨_,_,_,_,_,_,_,rfl⟩<;>simp)
 .exact I b o O ((J.2.1 b r).trans q)
 .obtain⟨d,e⟩:=J.2.2 b o q;exact⟨d,I b _ O e⟩
 .by_cases O:b=a
  .subst O;exact⟨_,v⟩
  obtain⟨d,e⟩:=J.2.2 b o q;exact⟨_,I b _ O e⟩
 refine bT sz ?_;exact Nj (bV u)
theorem Kq{base:Heap}{U:Env}{Y:List Env}{L a:Addr}{C:Value}{own:Option Addr}{Q:Unit->Shared->Prop}
  (H:A.frames=some (U::Y)) (f:s.heap.FunFrames base (U::Y)) (u:U.frame=some L) (hx:Sf s.heap a C dx own)
  (h:∀h',NW ((U::Y).filterMap (·.frame)) a C dx (rawInt L) own s.heap h'->Q () { s with heap:=h' }):wpAny M A (noteFrame (.ref a) U) Q E s:=by
 unfold noteFrame;simp only[u];cases hx with
 |first x =>
  mleft;obtain⟨oe,vs,r,hC,hD,hd,p⟩:=x.ex;mright;refine aA (qh r hd p ?_);rw[ae aG];exact Oa H f u x h
 |@on T fl x e G =>
  have hq:=λ(z:fl=rawInt L)=>h s.heap ⟨⟨T,x,by rw[<-z];exact e,G,.inr rfl⟩,λb o q _ _ _=>q,λb o q _ _ _=>⟨o.slots,q⟩,λb o q=>⟨o,q⟩,bD _⟩
  mleft;obtain⟨oe,vs,r,hC,hD,hd,p⟩:=x.ex;mright;mleft;obtain⟨oT,ts,v,J,d⟩:=e;mright;refine aA (qh r hd p ?_);rw[ag (show(Value.ref T != Value.none)=true from by simp)]
  refine aA (qh v J d ?_);by_cases n:(fl==rawInt L)=true
  .rw[ag n];exact bf (hq (eq_of_beq n))
  rw[ae n];refine aA (Jb v J (Oi.mp d).1 ?_);have O:∀b,b≠T->(s.heap.update T (Obj.mapFields (·.setIfInBounds 3 Value.none))).get? b=s.heap.get? b:=λb D=>sg _ _ (bq D);have m:∀b o,s.heap.get? b=some o->(∀vs,o.data≠.fields vs)->b≠T:=λb o q l z=>by
   rw[z,v]at q;cases q;exact l ts J
  have j:=uO (Obj.mapFields (·.setIfInBounds 3 Value.none)) v (JF (Bj J _));have B:(s.heap.update T (Obj.mapFields (·.setIfInBounds 3 Value.none))).objs.size=s.heap.objs.size:=by
   first|exact Heap.size_update _ _ _|simp[Heap.update]
  refine Oa (s:={ s with heap:=s.heap.update T (Obj.mapFields (·.setIfInBounds 3 Value.none)) }) H (f.of_keeps λb o q l=>⟨o,(O b (m b o q l)).trans q,rfl⟩) u (x.keeps λo q=>(O a (bq G)).trans q) λh' N=>h h' ?_
  mleft;obtain⟨⟨T',n1,n2,n3,n4⟩,k1,k2,c,k4⟩:=N;mright;have i:s.heap.objs.size<=T':=by rw[<-B];exact n4.resolve_right aP
  refine⟨⟨T',n1,n2,n3,.inl i⟩,λb o q D I g=>?_,λb o q D I g=>?_,λb o q=>?_,by rw[<-B];exact k4⟩
  .exact k1 b o ((O b λz=>g (by rw[z])).trans q) D I aP
  .exact k2 b o ((O b λz=>g (by rw[z])).trans q) D I aP
  by_cases y:b=T
  .subst y;exact c b _ j
  exact c b o ((O b y).trans q)
theorem Ky{a T:Addr}{C:Value}{Q:Unit->Shared->Prop}(x:Ex s.heap a C dx (.ref T))(N:Tb s.heap T fl)(U:T≠a)
  (h:∀h',Ex h' a C dx (.ref T)->Tb h' T .none->(∀b,b≠T->h'.get? b=s.heap.get? b)->(∃o,h'.get? T=some o)->h'.objs.size=s.heap.objs.size->Q () { s with heap:=h' }):wpAny M A (setFlight (.ref a) none) Q E s:=by
 mleft;obtain⟨G,vs,L,D,B,hd,J⟩:=x.ex;mright;mleft;obtain⟨z,ts,O,Y,I⟩:=N;mright;have hz:3<ts.size:=(Oi.mp I).1;unfold setFlight;refine aA (qh L hd J ?_);rw[ag (show(Value.ref T != Value.none)=true from by simp)]
 refine Jb O Y hz (h _ (x.keeps λo q=>(sg _ _ U).trans q) ⟨_,_,uO _ O (JF (Bj Y _)),Bj Y _,by simp[hz]⟩ (λb H=>sg _ _ (bq H)) ?_ ?_)
 .exact⟨_,uO _ O (JF (Bj Y _))⟩
 first|exact Heap.size_update _ _ _|simp[Heap.update]
theorem WD{a T:Addr}{C:Value}{fr:Option Addr}{Q:Unit->Shared->Prop}(x:Ex s.heap a C dx (.ref T))(N:Tb s.heap T fl)(U:T≠a)
  (h:∀h',Sf h' a C dx (some T)->(∀b,b≠T->h'.get? b=s.heap.get? b)->Q () { s with heap:=h' }):wpAny M A (setFlight (.ref a) fr) Q E s:=by
 mleft;obtain⟨G,vs,L,D,B,hd,J⟩:=x.ex;mright;mleft;obtain⟨z,ts,O,Y,I⟩:=N;mright;have hz:3<ts.size:=(Oi.mp I).1;unfold setFlight;refine aA (qh L hd J ?_);rw[ag (show(Value.ref T != Value.none)=true from by simp)]
 refine Jb O Y hz (h _ ?_ λb H=>sg _ _ (bq H));exact .on (x.keeps λo q=>(sg _ _ U).trans q) ⟨_,_,uO _ O (JF (Bj Y _)),Bj Y _,by simp[hz];rfl⟩ U
end
end
section
variable{mg:Str->Option Value}{base:Heap}{N:List Str}{qual:Str}
theorem qe{a b:Addr}{n:Nat}(Y:a<n)(U:n<=b):a≠b:=λe=>absurd (show b<n from e▸Y) (Nat.not_lt.mpr U)
def jB(P:Program)(w:World):sO:=λY H s E e U=>∃(a O T:Addr) (C:Value) (Q:Hp),e=.ref a/\U.os=s.os/\AllBare U.gens/\Un (pP Y) [] H Q s.heap U.heap/\fH P w Q U.heap/\
 Sf U.heap a C O (some T)/\s.heap.objs.size<=a/\s.heap.objs.size<=T/\Q a=none/\Q T=none/\E C (some O) Q
structure jt(X:Cx)(pins:bO)(H:Hp)(b:Addr):Prop where
 free:H b=none
 new:X.m7.heap.objs.size<=b
 loc:b≠X.env.locals
 fs:b∉X.fs
 cells:∀x c,X.env.cells.lookup x=some c->c≠b
 pins:∀p∈X.pn++pins,p.1≠b
structure V0(X:Cx)(pins:bO)(σ:L2.St)(H:Hp)(s:Shared)(a dx:Addr)(C:Value)(own:Option Addr):Prop where
 inv:Inv X pins σ H s
 Py:Sf s.heap a C dx own
 iM:jt X pins H a
 tb:∀T,own=some T->jt X pins H T
def Lets(X:Cx)(E:XK):Prop:=∀(pins:bO) (σ:L2.St) (H:Hp) (s:Shared) (a Y:Addr) (C:Value) (own:Option Addr),V0 X pins σ H s a Y C own->E C (some Y) H->X.xe (.ref a) s
theorem jt.of{X:Cx}{pins:bO}{σ:L2.St}{H Y:Hp}{s:Shared}{b:Addr}(I:Inv X pins σ H s)(U:s.heap.objs.size<=b)(T:Y b=none):jt X pins Y b:=by
 mleft;obtain⟨Q,O,N,J,M,L⟩:=I.Gw U T;mright;exact⟨Q,bT I.sz U,O,N,M,L⟩
theorem Lets.passes{X:Cx}{E:XK}(h:Lets X E):Passes (jB X.prog X.w) X E:=by
 intro pins σ H s e s' I c;mleft;obtain⟨a,Q,T,C,U,rfl,os,Y,un,aQ,Py,O,N,M,L,q⟩:=c;mright;have J:Inv X pins σ U s':=I.Nl (ch:=[]) os un aQ Y λb z=>absurd z aP;exact h pins σ U s' a Q C (some T) ⟨J,Py,jt.of I O M,λG e=>by cases e;exact jt.of I N L⟩ q
theorem Lq{X:Cx}{pins:bO}{σ:L2.St}{H:Hp}{s:Shared}{a U T:Addr}{C:Value}{own:Option Addr}{h' h2:Heap}(I:V0 X pins σ H s a U C own)
  {Q:Value} (N:NW (pP X.stack) a C U Q own s.heap h') (O:H T=none) (k:∀b,b≠T->h2.get? b=h'.get? b):fH X.prog X.w H h2:=by
 have keep:∀c o u,H c=some o->s.heap.get? c=some u->h2.get? c=some u:=λc o u e q=>by
  rw[k c (aO e O)];refine N.keep c u q (λz=>?_) (λz=>?_) (λz=>?_)
  .rw[I.inv.J4 c z]at e;cases e
  .rw[z,I.iM.free]at e;cases e
  rw[(I.tb c z).free]at e;cases e
 intro b o e;refine(I.inv.aQ b o e).lq (λc u Y q=>?_) (λ_ q=>q) λ_ _ q=>q;rcases Y with rfl|Y
 .exact keep c o u e q
 exact keep c _ u Y q
theorem fU{P:Program}{w:World}{K:W.Frag}{Y:Scope}{f:Addr}{y:Value}{A:Around}{outer:List Env}{Q:Shared}{i:Hp}{E:XK} :
  Lets (vO (jB P w) P w K mg base N qual Y f y A outer Q i E) E:=by
 intro pins σ H s a dx C own I q;have U:=I.inv;show wpAny _ _ (leaving _ _) _ _ s;unfold leaving;have v:(vO (jB P w) P w K mg base N qual Y f y A outer Q i E).A.frames=some (envOfC qual Y Q.heap.objs.size f y::outer):=U.ok.frames;refine aA (Kq v U.stack rfl I.Py λh' g=>?_);have u:=g;mleft;obtain⟨⟨T,n1,n2,d,c⟩,k1,k2,k3,k4⟩:=g;mright;refine Ky n1 n2 d λr fx ft B kT kz=>?_;have lo:∀b o,Q.heap.get? b=some o->b<Q.heap.objs.size:=λb o e=>bV e;have ab:Q.heap.objs.size<=s.heap.objs.size:=U.sz;have p:Q.heap.objs.size<=a:=I.iM.new;have m:∀T',own=some T'->Q.heap.objs.size<=T':=λT' e=>(I.tb T' e).new;have J:Q.heap.objs.size<=T:=c.elim (λz=>bT ab z) (λz=>m T z);have fT:H T=none:=c.elim (λz=>U.aQ.fresh z) (λz=>(I.tb T z).free);have lt:∀b,b<Q.heap.objs.size->b≠T:=λb O=>qe O J;refine⟨a,dx,T,C,H,rfl,U.os,U.bare,⟨λb o e n O M=>?_,λb o e n O M=>?_,λb o e n M=>?_,λb o e M=>?_,U.base.tJ,U.base.qN,U.base.tM⟩,Lq I u fT B,.on fx ft d,p,J,I.iM.free,fT,q⟩
 .have G:=U.base.keep b o e n O M;have L:=lo b o e;show r.get? b=some o;rw[B b (lt b (lo b o e))];refine k1 b o G (λz=>?_) (qe L p) (λz=>qe L (m b z) rfl);have D:b∈Q.heap.objs.size::pP outer:=z;rcases b0.mp D with D|D
  .exact qe L (bD _) D
  exact O D
 .obtain⟨sl,G⟩:=U.base.slot b o e n O M;have L:=lo b o e;obtain⟨l,j⟩:=k2 b _ G (show b∈Q.heap.objs.size::pP outer from cF _ O) (qe L p) (λz=>qe L (m b z) rfl);refine⟨l,?_⟩;show r.get? b=_;rw[B b (lt b (lo b o e))];exact j
 .exact U.base.free b o e n M
 obtain⟨o',G⟩:=U.base.there b o e M;obtain⟨o2,j⟩:=k3 b o' G;refine⟨o2,?_⟩;show r.get? b=_;rw[B b (lt b (lo b o e))];exact j
theorem m8{P:Program}{w:World}{K:W.Frag}{x:Str}{st:Stmt}{f:Addr}{L:FuncData}{ps:List Str}{k:Nat}{sp:Sp}(F:bJ K x qual st f L)(S:aD N ps (az st))(len:∀vs H Q E,sp vs H Q E->vs.length=ps.length)
  (T:∀(U:Value) (A:Around) (Y:List Env) (s:Shared) (H:Hp) (vs:List V) (Q:VK) (E:XK),fc k (A.deeper (envOfC qual (az st) s.heap.objs.size f U))->sp vs H Q E->
   ∃t,uM (vO (jB P w) P w K mg base N qual (az st) f U A Y s H E) (vc st) t/\t { nx:=λ_ J=>Q .aX J,rt:=Q } (start N vs) H):aM P w K mg base (jB P w) (k+1) f L ps sp:=by
 mleft;obtain⟨D,C,kV,I,B,z,U,y,G,rfl,lk,O⟩:=F.ex;mright;exact YA lk O S len λA Y s H vs Q E hr M=>T U A Y s H vs Q E hr M
theorem iD{P:Program}{w:World}{K:W.Frag}{Y:Scope}{f:Addr}{T:Value}{A:Around}{U:List Env}{Q:Shared}{O:Hp}{E:XK} :
  Passes (jB P w) (vO (jB P w) P w K mg base N qual Y f T A U Q O E) E:=Lets.passes fU
theorem WB{X:Cx}{st:Stmt}{t:TS}(h:PS X.Ox st t):PS X st t:=λpins s σ H D I Y =>
 i5 (h pins s σ H D (I.uz _) Y) (λ_ _ q=>q.nQ) λ_ _ z=>False.elim z
end
end LX
namespace LX
open PySem PySem.Spec L2
structure XC(h:Heap)(C:Addr)(ob:Obj)(bm:List Value):Prop where
 at_:h.get? C=some ob
 sh:∃nm q N bs sn sub ab col dd k0 k1 k2 k3 k5,ob=excClassObj nm q C N bs bm true sn sub ab col dd k0 k1 k2 k3 k5 "Exception.__new__"
 XF:bm.contains (.type "Exception")=true
 hasB:bm.contains (.type "BaseException")=true
 Ld:bm.contains (.type "AttributeError")=false
 noN:bm.contains (.type "NameError")=false
section
variable{prog:Program}{w:World}{A:Around}{E:b7}{h:Heap}{g:Array GenState}{d:Drawn}{t:Nat}{os:OsState}{C:Addr}{ob:Obj}{bm:List Value}
structure Made(h h':Heap)(e:Addr)(C:Addr):Prop where
 keeps:∀b o,h.get? b=some o->h'.get? b=some o
 new:h.objs.size<=e
 ob:∃t:Addr,h'.get? e=some { cls:=.ref C,data:=.fields #[.ref t,.none,.none,.none,.bool false,.none] }/\t≠e
theorem Wt{M:Model}{Q:Unit->Shared->Prop}(x:XC h C ob bm)(U:Q () ⟨h,g,d,t,os⟩):wpAny M A (checkBuiltinCall "Exception.__new__" ⟨[.ref C],[]⟩) Q E ⟨h,g,d,t,os⟩:=by
 have F:=N4;mleft;obtain⟨L,q,N,bs,J,sub,I,T,H,G,D,B,z,y,rfl⟩:=x.sh;mright;have Y:=x.at_;have O:(Value.ref C::bm).contains (.type "Exception")=true:=by
  rw[yD,x.XF,Ay]
 have v:=F.noStar;simp only[checkBuiltinCall,F.newKind,F.newSplit,F.newRow];repeat (first
  |refine iT Y ?_
  |(refine AB Y ?_;rw[O])
  |refine wpAny_staticBase_exc Y ?_
  |refine wpAny_madeBy_exc Y ?_
  |simp only[bne_self_eq_false,oN,gA]
  | wp_step)
 exact U
theorem aac{R:Result->Shared->Prop}(x:XC h C ob bm)
  (Q:R (.ok (.ret (.ref (h.objs.size+1)))) ⟨(h.push { cls:=.type "tuple",data:=.seq ([]:List Value).toArray }).push { cls:=.ref C,data:=.fields #[.ref h.objs.size,.none,.none,.none,.bool false,.none] },g,d,t,os⟩) :
  codeAny (model prog w) A (.builtin "Exception.__new__" ⟨[.ref C],[]⟩) R ⟨h,g,d,t,os⟩:=by
 have F:=N4;mleft;obtain⟨I,q,N,bs,H,sub,G,O,E,D,B,z,y,v,rfl⟩:=x.sh;mright;have Y:=x.at_;have U:=F.ends;have M:(Value.ref C::bm).contains (.type "Exception")=true:=by
  rw[yD,x.XF,Ay]
 have L:(Value.ref C::bm).contains (.type "AttributeError")=false:=by
  rw[yD,x.Ld];rfl
 have J:(Value.ref C::bm).contains (.type "NameError")=false:=by
  rw[yD,x.noN];rfl
 refine codeAny_builtinAt F.entry ?_;unfold Builtin.«BaseException.__new__»;refine wpAt_bind ?_;show wpAt _ _ _ (stack >>= _) _ _ _;refine wpAt_bind (wpAt_stack λp T=>wpAt_of_wpAny ?_)
 wp_walk
 refine wpAt_of_wpAny ?_;rw[F.owner];repeat (first
  |with_reducible refine wpAny_madeHere_exc F.canon Y ?_
  |with_reducible refine iT Y ?_
  |(with_reducible refine AB Y ?_;first|rw[M]|rw[L]|rw[J])
  | wp_step)
 show R _ _;rw[lJ];exact Q
theorem Vw{U:Addr}{Q:Fin->Shared->Prop}(x:XC h C ob bm)(H:W.Looks (model prog w) h (typeLookup (.ref C) "__init__") (some (.ref U)))
  (G:∀Y:Value,W.Looks (model prog w) h (bindSpecial (.ref U) Y) (.ref U,[Y]))
  (D:∀h' e,Made h h' e C->wpAny (model prog w) A (call (.ref U) [.ref e]) (λr L=>r=.none/\Q (.done (.ret (.ref e))) L) E ⟨h',g,d,t,os⟩) :
  wpAny (model prog w) A (Builtin.«type.__call__» ⟨[.ref C],[]⟩) Q E ⟨h,g,d,t,os⟩:=by
 have F:=N4;have J:=x;mleft;obtain⟨u,q,N,bs,p,sub,n,B,m,l,j,i,f,c,rfl⟩:=x.sh;mright;have O:=x.at_;repeat (first
  |with_reducible refine iT O ?_
  |with_reducible refine wpAny_madeBy_exc O ?_
  | wp_step)
 refine codeAny_call_builtin_code (Code.quiet_builtin _ F.quiet) (Wt J ?_);refine aac J ?_;show wpAny _ _ _ _ _ _;have T:∀b o,h.get? b=some o->((h.push { cls:=.type "tuple",data:=.seq ([]:List Value).toArray }).push { cls:=.ref C,data:=.fields #[.ref h.objs.size,.none,.none,.none,.bool false,.none] }).get? b=some o:=
  λb o e=>cA _ (cA _ e)
 have M:=T _ _ O;have I:((h.push { cls:=.type "tuple",data:=.seq ([]:List Value).toArray }).push { cls:=.ref C,data:=.fields #[.ref h.objs.size,.none,.none,.none,.bool false,.none] }).get? (h.objs.size+1)=some { cls:=.ref C,data:=.fields #[.ref h.objs.size,.none,.none,.none,.bool false,.none] }:=by heap_get
 have y:(Value.ref C::bm).contains (.ref C)=true:=by simp
 unfold isInstance;repeat (first
  |with_reducible refine iT I ?_
  |(with_reducible refine AB M ?_;rw[y])
  | wp_step)
 show wpAny _ _ (typeLookup (.ref C) _) _ _ _;refine(H.keeps T).here (s:=⟨_,g,d,t,os⟩) ?_;refine wX (aA (((G (.ref (h.objs.size+1))).keeps T).here (s:=⟨_,g,d,t,os⟩) ?_));refine aA (i5 (D _ (h.objs.size+1) ⟨T,Nat.le_succ _,h.objs.size,I,fZ (Nd _)⟩) (λr L hr=>?_) λ_ _ z=>z);obtain⟨rfl,v⟩:=hr
 wp_walk
 exact v
theorem call_exc{U:Addr}{Q:b7}(x:XC h C ob bm)(O:W.Looks (model prog w) h (typeLookup (.ref C) "__init__") (some (.ref U)))
  (M:∀Y:Value,W.Looks (model prog w) h (bindSpecial (.ref U) Y) (.ref U,[Y]))
  (L:∀h' e,Made h h' e C->wpAny (model prog w) (A.under (.builtin "type.__call__" ⟨[.ref C],[]⟩)) (call (.ref U) [.ref e]) (λr J=>r=.none/\Q (.ref e) J) E ⟨h',g,d,t,os⟩) :
  wpAny (model prog w) A (call (.ref C) []) Q E ⟨h,g,d,t,os⟩:=by
 have I:=x;mleft;obtain⟨D,q,N,bs,B,sub,z,H,y,v,u,s,p,o,rfl⟩:=x.sh;mright;have T:=x.at_;have n:=tc_lookup;have m:=tc_bind (.ref C);have l:(⟨h,g,d,t,os⟩:Shared).TypeIs (.ref C) "type":=⟨_,T,rfl⟩;refine HV (codeAny_of_tree ?_);show wpAny _ _ (callAny (.ref C) _) _ _ _;repeat (any_goals (first
  |assumption
  |with_reducible refine iT T ?_
  | wp_step))
 refine⟨rfl,?_⟩;refine codeAny_call_builtin_at (Code.quiet_builtin _ Mo) entry_typeCall (wpAny_check_type_call_sub T (Vw I O M λh' e G=>?_));exact L h' e G
end
end LX
namespace LX
open PySem PySem.Spec L2 PySem.Builtin PySem.Builtin.ObjectAttr
open PySem.W (Looks InstAt findIn looks_findIn)
section
variable{prog:Program}{w:World}{A:Around}{E:b7}{h:Heap}{g:Array GenState}{d:Drawn}{t:Nat}{os:OsState}{C e:Addr}{ob:Obj}{bm:List Value}
def pb(l:List Value):Bool:=l.dropWhile onTheHeap==[.type "Exception",.type "BaseException",.type "object"]
theorem Rc{a:Value}(h:onTheHeap a=true):∃c,a=.ref c:=by
 cases a<;>first|exact⟨_,rfl⟩|cases h
theorem BD{C:List Value->Prop}(Y:C [.type "Exception",.type "BaseException",.type "object"])(U:∀a r,C r->C (.ref a::r))(l:List Value):pb l=true->C l:=by
 induction l with
 |nil=>exact λe=>absurd e aG
 |cons a r T =>
  intro e;unfold pb at e;rw[List.dropWhile_cons]at e;cases h:onTheHeap a
  .rw[h]at e;have Q:a::r=_:=eq_of_beq e;rw[Q];exact Y
  rw[h]at e;obtain⟨c,rfl⟩:=Rc h;exact U _ _ (T e)
theorem Uj(Y:Value){l:List Value}:pb l=true->refuseLoop Y "__setattr__" l=pure ():=
 BD (C:=λl=>refuseLoop Y "__setattr__" l=pure ()) (PySem.F.store_Exception.passes Y) (λa r h=>by rw[refuseLoop_ref];exact h) l
theorem aax{l:List Value}:pb l=true->l.contains (.type "object")=true:=
 BD (C:=λl=>l.contains (.type "object")=true) aG (λa r h=>by rw[yD,h,Ay]) l
theorem aas{K:W.Frag}{oe:Obj}{vs:Array Value}{name:Str}{v:Value}{Q:Unit->Shared->Prop}(f:K.In h)(x:XC h C ob bm)(c:pb bm=true)
  (hs:findIn K (.ref C) "__setattr__"=some (some (.builtin "object.__setattr__"))) (hn:findIn K (.ref C) name=some none) (U:h.get? e=some oe) (a:oe.cls=.ref C) (hd:oe.dict=none) (hv:oe.data=.fields vs)
  (hq:∀h' J t',h.objs.size<=J->h'.get? e=some { oe with dict:=some J }->h'.Ns1 J (λy=>if y=name then some v else none)->(∀b o,b≠e->h.get? b=some o->h'.get? b=some o)->Q () ⟨h',g,d,t',os⟩) :
  wpAny (model prog w) A (setAttr (.ref e) name v) Q E ⟨h,g,d,t,os⟩:=by
 have T:=PySem.F.store_Exception;mleft;obtain⟨nm,q,N,bs,sn,sub,ab,al,dd,k0,k1,k2,k3,k5,rfl⟩:=x.sh;mright;have H:=x.at_;have I:InstAt h e oe C none:=⟨U,a,by unfold W.notCls;rw[hv],by rw[hd];trivial⟩
 have O:Looks (model prog w) h (mroOf (.ref C)) (.ref C::bm):=λA' Q' E' G k z=>by
  mleft;obtain⟨h',g',d',t',D⟩:=G;mright;exact wpAny_mroOf_exc (k _ _ H) z
 have M:Looks (model prog w) h (isInstance (.ref e) (.type "object")) true:=I.type.andThen λA' Q' E' G k z=>by
  mleft;obtain⟨h',g',d',t',D⟩:=G;mright;refine AB (k _ _ H) ?_;rw[yD,aax c,Ay];exact z
 refine W.set_plain (s:=⟨h,g,d,t,os⟩) f I hs ?_;refine S0 T.slot.plain T.entry (@W.check_slot (model prog w) _ _ _ "object.__setattr__" "object" "__setattr__" (.ref e) [.str name t,v] [] _ T.kind T.split M (T.args (.ref e) (.str name t) v) ?_);rw[W.osa_eq,refuse_eq];refine aA (aA (I.type.here (aA (O.here ?_))));rw[refuseLoop_ref,Uj _ c];refine bf (aA (I.type.here (aA ((looks_findIn f hn).here (aA (bf ?_))))));show wpAny _ _ (storeInOwnDict (.ref e) (.ref C) (.str name t) name v false) _ _ _;have xs:e≠h.objs.size:=fZ (bV U);have Y:(h.push { cls:=.type "dict",data:=.dict #[] }).get? e=some oe:=cA _ U;repeat (first
  |(with_reducible refine iT U ?_;rw[a])
  |with_reducible refine iT H ?_
  | wp_step)
 rw[hd,hv];rw[ae (by simp[typeHasDict])]
 generalize B:h.push { cls:=.type "dict",data:=.dict #[] }=u at Y;refine aA (wpAny_alloc' ?_);rw[B];refine aA (wpAny_update' Y (bf ?_));have r:=(Heap.get?_some_iff.mp U).2;have p:(u.update e λo=>{ cls:=o.cls,dict:=some h.objs.size,data:=o.data,slots:=o.slots }).get? e=some { cls:=oe.cls,dict:=some h.objs.size,data:=oe.data,slots:=oe.slots }:=by
  refine uO _ Y ?_;mleft;obtain⟨oc,od,n,am⟩:=oe;mright;cases n<;>first|rfl|exact r
 have gd:(u.update e λo=>{ cls:=o.cls,dict:=some h.objs.size,data:=o.data,slots:=o.slots }).get? h.objs.size=some { cls:=.type "dict",data:=.dict #[] }:=by
  refine(Heap.get?_update_ne _ _ _ _ xs.symm).trans ?_;rw[<-B];exact Heap.get?_push_at rfl rfl
 have nd:(u.update e λo=>{ cls:=o.cls,dict:=some h.objs.size,data:=o.data,slots:=o.slots }).Ns h.objs.size (λ_=>none):=⟨_,#[],_,gd,rfl,λy hy=>absurd hy aP,λ_=>rfl⟩;show wpAny _ _ (storeInDict h.objs.size (.str name t) name v) _ _ _;unfold storeInDict newKeyGuard;refine aA (bf (aA (wpAny_nsSet1 (Heap.Ns1.of_empty nd) λh' L sb=>?_)));mleft;obtain⟨oD,m,an,l,j,i⟩:=L.count (Within.cons name v Within.nil);mright;have hz:m.size<=sizeLine+1:=bT i (by rw[cT,oH];lia)
 refine aA (wpAny_lookBehind l (by rw[j];exact pastItsLine_dict hz) ?_)
 wp_walk
 refine hq h' h.objs.size _ (bD _) ((sb.2 e xs).trans p) ?_ λb o hb q=>?_
 .exact L
 have nb:b≠h.objs.size:=fZ (bV q);refine(sb.2 b nb).trans ((Heap.get?_update_ne _ _ _ _ hb).trans ?_);rw[<-B];exact cA _ q
theorem Z8{K:W.Frag}{T:Obj}{vs:Array Value}{u:Addr}{s:Str->Option Value}{name:Str}{v:Value}{Y:Bool}{Q:b7}(L:K.In h)(x:XC h C ob bm)
  (J:findIn K (.ref C) "__getattribute__"=some (some (.builtin "BaseException.__getattribute__"))) (I:findIn K (.ref C) "__getattr__"=some none) (r:findIn K (.ref C) name=some none)
  (O:h.get? e=some T) (M:T.cls=.ref C) (hd:T.dict=some u) (p:T.data=.fields vs) (H:h.Ns1 u s) (o:s name=some v) (hh:handedOut v=pure v) (n:∀t',Q v ⟨h,g,d,t',os⟩) :
  wpAny (model prog w) A (getAttr (.ref e) name Y) Q E ⟨h,g,d,t,os⟩:=by
 have FB:=PySem.F.attrBase_Exception;mleft;obtain⟨nm,q,N,bs,sn,sub,ab,m,dd,k0,k1,k2,k3,k5,rfl⟩:=x.sh;mright;have G:=x.at_;have l:Looks (model prog w) h (typeLookup (.ref C) "__getattribute__") _:=looks_findIn L J;have D:Looks (model prog w) h (typeLookup (.ref C) "__getattr__") _:=looks_findIn L I;have j:Looks (model prog w) h (typeLookup (.ref C) name) _:=looks_findIn L r;have f3:=FB.ga.bind (.ref e);have x0:(Y&&onTheHeap (Value.builtin "BaseException.__getattribute__"))=false:=by cases Y<;>rfl
 have i:(Value.builtin "BaseException.__getattribute__"==Value.builtin "object.__getattribute__")=false:=Mo;have x1:(onTheHeap (Value.ref C)&&Value.builtin "BaseException.__getattribute__"==Value.builtin "object.__getattribute__")=false:=by rw[i];rfl
 have f:(Value.ref C::bm).contains (.type "BaseException")=true:=by
  rw[yD,x.hasB,Ay]
 have U:Looks (model prog w) h (isInstance (.ref e) (.type "BaseException")) true:=λA' Q' E' c k z=>by
  mleft;obtain⟨h',g',d',t',b⟩:=c;mright;unfold isInstance;have B:=k _ _ O;have y:=k _ _ G;repeat (first
   |(with_reducible refine iT B ?_;rw[M])
   |(with_reducible refine AB y ?_;rw[f])
   | wp_step)
  exact z
 unfold getAttr;repeat (any_goals (first
  |assumption
  |(with_reducible refine iT O ?_;rw[M])
  |(with_reducible refine l.at ?_)
  |(with_reducible refine D.at ?_)
  | wp_step))
 show codeAny _ _ (.call (.builtin "BaseException.__getattribute__") ⟨[.ref e,.str name t],[]⟩) _ _;have a:=PySem.F.args_bexc_ga (.ref e) (.str name t);refine S0 FB.ga.plain PySem.F.entry_bexc_ga (@W.check_slot (model prog w) _ _ ⟨h,g,d,t+1,os⟩ "BaseException.__getattribute__" "BaseException" "__getattribute__" (.ref e) [.str name t] [] _ Mo Mo U a ?_);unfold Builtin.«object.__getattribute__»;repeat (any_goals (first
  |assumption
  |(with_reducible refine iT O ?_;rw[M])
  |(with_reducible refine j.at ?_)
  |with_reducible refine iT G ?_
  | wp_step))
 rw[p];show wpAny _ _ (instanceDict e false) _ _ _;unfold instanceDict;repeat (any_goals (first
  |assumption
  |(with_reducible refine iT O ?_;rw[M])
  |with_reducible refine iT G ?_
  | wp_step))
 rw[hd];repeat (first
  |(with_reducible refine wpAny_nsGet H.ns ?_;rw[o])
  | wp_step)
 exact n _
end
end LX
namespace LX
open PySem PySem.Spec L2
open PySem.W (Looks InstAt findIn looks_findIn)
section
variable{prog:Program}{w:World}{A:Around}{E:b7}{h:Heap}{g:Array GenState}{d:Drawn}{t:Nat}{os:OsState}{C e:Addr}{ob:Obj}{bm:List Value}
theorem W3{Q:b7}{U:Option Addr}{M:Addr}(x:XC h C ob bm)(Y:h.get? e=some { cls:=.ref C,dict:=U,data:=.fields #[.ref M,.none,.none,.none,.bool false,.none] })
  (L:∀h' T,h.objs.size<=T->h'.get? e=some { cls:=.ref C,dict:=U,data:=.fields #[.ref T,.none,.none,.none,.bool false,.none] }->(∀b o,b≠e->h.get? b=some o->h'.get? b=some o)->Q .none ⟨h',g,d,t,os⟩) :
  wpAny (model prog w) A (call (.builtin "Exception.__init__") [.ref e]) Q E ⟨h,g,d,t,os⟩:=by
 have F:=N4;mleft;obtain⟨D,q,N,bs,B,sub,z,J,I,y,v,u,s,r,rfl⟩:=x.sh;mright;have O:=x.at_;have p:=F.noStar;have H:(Value.ref C::bm).contains (.type "Exception")=true:=by
  rw[yD,x.XF,Ay]
 refine HV (S0 F.init.plain F.initEntry ?_);simp only[checkBuiltinCall,F.initKind,F.initSplit,F.initRow];repeat (first
  |with_reducible refine iT Y ?_
  |with_reducible refine iT O ?_
  |(with_reducible refine AB O ?_;rw[H])
  | wp_step)
 show Q .none _;have xs:e≠h.objs.size:=fZ (bV Y);refine L _ h.objs.size (bD _) ?_ λb o G q=>?_
 .rw[uO _ (cA _ Y) rfl];rfl
 rw[sg _ _ (bq G)];exact cA _ q
theorem T4{s:Shared}{T:Env}{x:Sem Value}{Q:Flow->Shared->Prop}(J:A.handled=none)
  (h:wpAny (model prog w) A x (λv Y=>∃e U ob bm C vs,v=.ref e/\XC Y.heap C ob bm/\Y.heap.get? e=some U/\U.cls=.ref C/\U.data=.fields vs/\vs[1]?=some .none/\E (.ref e) Y) E s) :
  wpAny (model prog w) A (raiseStmt T (some x) none) Q E s:=by
 unfold raiseStmt;refine aA (i5 h (λv Y O=>?_) λ_ _ z=>z);mleft;obtain⟨e,U,ob,bm,C,vs,rfl,x,M,I,hd,O,H⟩:=O;mright;mleft;obtain⟨y,g,d,tk,os⟩:=Y;mright;mleft;obtain⟨u,q,N,bs,r,sub,p,G,D,o,n,m,l,j,rfl⟩:=x.sh;mright;have L:=x.at_;have B:(Value.ref C::bm).contains (.type "BaseException")=true:=by
  rw[yD,x.hasB,Ay]
 repeat (first
  |(with_reducible refine iT M ?_;first|rw[I]|rw[hd])
  |with_reducible refine iT L ?_
  |(with_reducible refine AB L ?_;rw[B])
  |with_reducible refine qh M hd O ?_
  | wp_step)
 exact wpAny_raiseNew_none J H
end
end LX
namespace LX
open PySem PySem.Spec PyProof.Rows L2
section
open PySem.W (Looks InstAt findIn looks_findIn)
variable{t:Addr}
def XO(e C t:Addr)(Y:Option Addr):HO:=.ext λh=>h.get? e=some { cls:=.ref C,dict:=Y,data:=.fields #[.ref t,.none,.none,.none,.bool false,.none] }
theorem XO.ok{P:Program}{w:World}{H:Hp}{h:Heap}{e C:Addr}{Y:Option Addr}(q:h.get? e=some { cls:=.ref C,dict:=Y,data:=.fields #[.ref t,.none,.none,.none,.bool false,.none] }):dH P w H h e (XO e C t Y):=
 ⟨q,⟨_,q⟩,λU T a b=>b _ a⟩
theorem XO.at_{X:Cx}{pins:bO}{σ:L2.St}{H:Hp}{s:Shared}{e C:Addr}{Y:Option Addr}(I:Inv X pins σ H s)(q:H e=some (XO e C t Y)):s.heap.get? e=some { cls:=.ref C,dict:=Y,data:=.fields #[.ref t,.none,.none,.none,.bool false,.none] }:=(I.aQ e _ q).1
structure XK(K:W.Frag)(C:Addr):Prop where
 xc:∃ob bm,pb bm=true/\∀h:Heap,K.In h->XC h C ob bm
 sa:findIn K (.ref C) "__setattr__"=some (some (.builtin "object.__setattr__"))
 ga:findIn K (.ref C) "__getattribute__"=some (some (.builtin "BaseException.__getattribute__"))
 gt:findIn K (.ref C) "__getattr__"=some none
 no:findIn K (.ref C) "number"=some none
 kp:W.keepIn K (.ref C)=true
structure YC(K:W.Frag):Prop where
 ga:findIn K (.type "type") "__getattribute__"=some (some (.builtin "type.__getattribute__"))
 sub:W.subIn K (.type "type") (.type "type")=some true
 fnd:W.findCls K (.type "Exception") (.type "type") "__init__"=some (.val (.builtin "Exception.__init__"))
theorem abN:opaqueClassAbove (.type "Exception")=pure none:=by kernel_rfl
theorem WT:typeOf (.type "Exception")=pure (.type "type"):=by kernel_rfl
theorem UM{prog:Program}{w:World}{A:Around}{E:b7}{s:Shared}{c:Value}{name:Str}{pl:Sem Bool}{Q:Value×List Value->Shared->Prop}(Y:W.Looks (model prog w) s.heap (specialOf c "__getattribute__") (some (.builtin "type.__getattribute__")))
  (h:wpAny (model prog w) A (getAttr c name) (λv=>Q (v,[])) E s):wpAny (model prog w) A (getMethod c name pl) Q E s:=by
 unfold getMethod;refine aA (Y.here ?_);dsimp only;rw[ag W.canon_tga];exact aA (i5 h (λ_ _ z=>bf z) λ_ _ z=>z)
def Xw(K:W.Frag)(U:TA):TE:=λσ H Q=>U σ H λvs H1=>∃e C t Y,vs=[.ref e]/\H1 e=some (XO e C t Y)/\LX.XK K C/\∀T,Q .aX (upd H1 e (XO e C T Y))
theorem Ub{X:Cx}{p Y U:Pos}{a:Expr}{M:TA}{pl:Sem Bool}(D:Gl X "Exception")(B:X.mg "Exception"=none)(F:YC X.K)(A:PA X [a] M)
  (z:starEach [a] X.env=[(false,eval a X.env)]:=by rfl)
  (y:eval (.Call (.Attribute (.Name "Exception" p) "__init__" U) [a] [] Y) X.env=(do
   let L <-eval (.Name "Exception" p) X.env
   standAt U.atName
   let (f,first) <-holding [L] (getMethod L "__init__" pl)
   callWith Y f first (backTo Y (starEach [a] X.env)) (backToKw Y (keywordEach [] X.env))):=by rfl) :
  PE X (.Call (.Attribute (.Name "Exception" p) "__init__" U) [a] [] Y) (Xw X.K M):=by
 intro pins s σ H Q I h;refine Hu (pl:=pl) (wC I D B PyProof.Rows.Boot.«Exception» ?_) y;refine UM ((W.Looks.of_pure WT).andThen (W.looks_findIn I.gT F.ga)) ?_;refine W.cls_open (mc:=.type "type") (hook:=none) I.gT (Looks.of_pure abN) (Looks.of_pure WT) F.ga (W.looks_hook I.gT ay) F.sub F.fnd ?_;refine bf ?_;show wpAny _ _ (handedOut (.builtin "Exception.__init__")) _ _ _;rw[W.handedOut_of ay];refine bf ?_;have v:=I.tok (s.toks+1);refine PyProof.Rows.callWith_builtin1 (aZ (A Y pins _ σ H _ v h) λus u T=>?_) z rfl;mleft;obtain⟨vs,H1,O,r,q⟩:=T;mright;mleft;obtain⟨e,C,t,o,n,J,m,q⟩:=q;mright;subst n;mleft;obtain⟨c,b,ho,l⟩:=m.xc;mright;cases r with
 |cons r j =>
  cases j;cases r;have N:=XO.at_ O J;mleft;obtain⟨hp,g,d,tk,os⟩:=u;mright;refine W3 (l _ O.gT) N λh' G n1 E i=>?_;refine⟨.aX,upd H1 e (XO e C G o),?_,rfl,q G⟩;exact O.write (t':=tk) (x:=e) (e:=e) (by rw[J];exact True.intro) (.inl rfl) i ⟨_,E⟩ (XO.ok E)
def acY(K:W.Frag)(T Q:TE)(f:Str):TS:=λD σ H=>Q σ H λy H1=>T σ H1 λx Y=>∃e C t,x=.ref e/\Y e=some (XO e C t none)/\LX.XK K C/\findIn K (.ref C) f=some none/\
 ∀U,Y U=none->D.nx σ (upd (upd Y U (.xd [(f,y)])) e (XO e C t (some U)))
theorem aav{X:Cx}{pins:bO}{σ:L2.St}{H:Hp}{s:Shared}{e C dx:Addr}{f:Str}{y:V}{u:Value}{h':Heap}{tk:Nat}(I:Inv X pins σ H s)(T:H e=some (XO e C t none))(L:RelV y u)(hd:s.heap.objs.size<=dx)
  (N:h'.get? e=some { cls:=.ref C,dict:=some dx,data:=.fields #[.ref t,.none,.none,.none,.bool false,.none] }) (J:h'.Ns1 dx (λz=>if z=f then some u else none)) (k:∀b o,b≠e->s.heap.get? b=some o->h'.get? b=some o) :
  Inv X pins σ (upd (upd H dx (.xd [(f,y)])) e (XO e C t (some dx))) { s with heap:=h',toks:=tk }:=by
 have Y:H dx=none:=I.aQ.fresh hd;have lt:∀b o,s.heap.get? b=some o->b≠dx:=λb o q=>qe (bV q) hd;have G:dx≠e:=λz=>by rw[z,T]at Y;cases Y
 have U:∀b o,H b=some o->o≠XO e C t none->b≠e:=λb o q n z=>by rw[z,T]at q;cases q;exact n rfl
 refine I.un (t':=tk) ⟨λb o q n _ _=>?_,λb o q n _ _=>?_,λb o q n _=>?_,λb o q _=>?_,λb xs q=>?_,λb o xs q=>?_,λb ps q=>?_⟩ ?_
 .exact k b o (λz=>by rw[z,T]at n;cases n) q
 .exact⟨o.slots,k b o (λz=>by rw[z,T]at n;cases n) q⟩
 .rw[aj (λz=>by rw[z,T]at n;cases n),aj (lt b o q)];exact n
 .by_cases z:b=e
  .subst z;exact⟨_,N⟩
  exact⟨o,k b o z q⟩
 .rw[aj (U b _ q (by intro z;cases z)),aj (λz=>by rw[z,Y]at q;cases q)];exact q
 .rw[aj (U b _ q (by intro z;cases z)),aj (λz=>by rw[z,Y]at q;cases q)];exact q
 .exact⟨#[],by rw[aj (U b _ q (by intro z;cases z)),aj (λz=>by rw[z,Y]at q;cases q),q];simp⟩
 intro b o q;by_cases z:b=e
 .subst z;rw[af]at q;cases q;exact XO.ok N
 rw[aj z]at q;by_cases M:b=dx
 .subst M;rw[af]at q;cases q;refine⟨_,J,λg=>?_⟩;by_cases Q:g=f
  .subst Q;simp only[List.lookup,EW,dB];exact L
  have E:(g==f)=false:=beq_eq_false_iff_ne.mpr Q;simp only[List.lookup,E,ae Q];trivial
 rw[aj M]at q;refine(I.aQ b o q).lq (λc v O r=>k c v ?_ r) (λc r=>?_) λc xs r=>?_
 .rcases O with rfl|O
  .exact z
  exact U c _ O (by intro w;cases w)
 .rw[aj (U c _ r (by intro w;cases w)),aj (λw=>by rw[w,Y]at r;cases r)];exact r
 rw[aj (U c _ r (by intro w;cases w)),aj (λw=>by rw[w,Y]at r;cases r)];exact r
theorem abF{X:Cx}{o Y:Expr}{f:Str}{T U:Pos}{M L:TE}(B:PE X o M)(A:PE X Y L)(z:swapsWith Y (some (.Attribute o f U)) T.line X.env=pure false):PS X (.Assign [.Attribute o f U] Y T) (acY X.K M L f):=by
 intro pins s σ H D I h;refine S3 (aZ (A pins s σ H _ I h) λu v ⟨y,H1,r,p,q⟩=>aZ (B pins v σ H1 _ r q) λn m O=>?_) z;mleft;obtain⟨x,H2,Q,l,e,C,t,j,J,G,i,c⟩:=O;mright;subst j;obtain rfl:n=Value.ref e:=l;mleft;obtain⟨ob,bm,b,a⟩:=G.xc;mright;have N:=XO.at_ Q J;mleft;obtain⟨hp,g,d,tk,os⟩:=m;mright;refine aas Q.gT (a _ Q.gT) b G.sa i N rfl rfl rfl λh' dx t' E n2 n3 n4=>?_;exact⟨σ,_,aav (tk:=t') Q J p E n2 n3 n4,c dx (Q.aQ.fresh E)⟩
end
section
open PySem.W (Looks InstAt findIn looks_findIn)
structure YK(K:W.Frag)(C:Addr)(m:Str)(f:Addr):Prop where
 sp:W.specialIn K (.ref C) "__getattribute__"=some (some (.builtin "type.__getattribute__"))
 rd:W.readsIn K C (.type "type")=true
 fnd:W.findCls K (.ref C) (.type "type") m=some (.val (.ref f))
 kp:W.keepIn K (.ref f)=true
section
variable{X:Cx}{CX:sO}{k:Nat}{f C:Addr}{fd:FuncData}{ps:List Str}{sp:Sp}{dvs:List V}{ds:List Value}{E:L2.XK}{x m:Str}{p pos apos:Pos}{e:Expr}{es:List Expr}{t:TA}
theorem uV{pl:Sem Bool}(F:aM X.prog X.w X.K X.mg X.base CX k f fd ps sp)(hr:fc k X.A)(N:Gl X x)(M:X.mg x=some (.ref C))(c:YK X.K C m f)(L:Binds X.K fd ps ds)(hd:Vals dvs ds)(J:Passes CX X E)
  (G:PA X (e::es) t) (Y:(x==("__debug__":Str))=false:=by decide) (D:starEach (e::es) X.env=(false,eval e X.env)::starEach es X.env:=by rfl) (U:(backTo pos (starEach es X.env)).any (·.1)=false:=by rfl)
  (B:eval (.Call (.Attribute (.Name x p) m apos) (e::es) [] pos) X.env=(do
   let T <-eval (.Name x p) X.env
   standAt apos.atName
   let (f,first) <-holding [T] (getMethod T m pl)
   callWith pos f first (backTo pos (starEach (e::es) X.env)) (backToKw pos (keywordEach [] X.env))):=by rfl) :
  PE X (.Call (.Attribute (.Name x p) m apos) (e::es) [] pos) (Tt sp dvs E t):=by
 intro pins s σ H Q I h;refine Hu (pl:=pl) (vf I N M ?_ Y) B;refine W.method_cls I.gT c.sp ?_;refine W.cls_value I.gT c.rd c.fnd rfl ?_;have z:=I.tok (s.toks+1);refine Ij (first:=[]) (h₀:=X.base) I.ok.mod.PU c.kp (aZ (G pos pins _ σ H _ z h) λus y ⟨vs,H1,O,r,q⟩=>⟨O.gT,?_⟩) D U
 exact En F hr L hd J O r q
def del(H:Hp)(e:Addr):Hp:=λb=>if b=e then none else H b
theorem kh{H:Hp}{e:Addr}:del H e e=none:=by unfold del;rw[ag rfl]
theorem eN{H:Hp}{e b:Addr}(h:b≠e):del H e b=H b:=by unfold del;rw[ae h]
theorem aat{pins:bO}{σ:L2.St}{H:Hp}{s:Shared}{e U t':Addr}{T:Option Addr}(I:Inv X pins σ H s)(Q:H e=some (XO e U t' T)):Inv X pins σ (del H e) s:=by
 have Y:∀b o,H b=some o->o≠XO e U t' T->b≠e:=λb o q n z=>by rw[z,Q]at q;cases q;exact n rfl
 have fr:∀b,H b=none->del H e b=none:=λb q=>by
  by_cases z:b=e
  .rw[z];exact kh
  rw[eN z];exact q
 refine I.un (h':=s.heap) (t':=s.toks) ⟨λb o q _ _ _=>q,λb o q _ _ _=>⟨o.slots,q⟩,λb o q n _=>fr b n,λb o q _=>⟨o,q⟩,λb xs q=>?_,λb o xs q=>?_,λb ps q=>⟨#[],?_⟩⟩ ?_
 .rw[eN (Y b _ q (by intro z;cases z))];exact q
 .rw[eN (Y b _ q (by intro z;cases z))];exact q
 .rw[eN (Y b _ q (by intro z;cases z)),q];simp
 intro b o q;have O:b≠e:=λz=>by rw[z,kh]at q;cases q
 rw[eN O]at q;refine(I.aQ b o q).lq (λ_ _ _ r=>r) (λc r=>?_) λc xs r=>?_
 .rw[eN (Y c _ r (by intro w;cases w))];exact r
 rw[eN (Y c _ r (by intro w;cases w))];exact r
def Wm(C:Addr)(sp:Sp)(E:L2.XK):TS:=λ_ _ H=>∀e t,H e=none->t≠e->sp [.ref e] (upd H e (XO e C t none)) (λv Y=>v=.aX/\∃T U,Y e=some (XO e C T (some U))/\E (.ref C) (some U) (del Y e)) E0
theorem jx{m U:Pos}(c:X.calm=true)(L:Lets X E)(l:LX.XK X.K C)(b:findIn X.K (.ref C) "__init__"=some (some (.ref f)))(a:W.isFn X.K (.ref f)=true)(F:aM X.prog X.w X.K X.mg X.base bX k f fd ["self"] sp)(hr:fc (k+1) X.A)
  (hg:Gl X x) (hm:X.mg x=some (.ref C)) (hb:Binds X.K fd ["self"] []) (B:(x==("__debug__":Str))=false:=by decide):PS X (.Raise (some (.Call (.Name x m) [] [] U)) none pos) (Wm C sp E):=by
 intro pins s σ H D I h;rw[arm_exec_Raise];have Q:wpAny (model X.prog X.w) X.A (eval (.Call (.Name x m) [] [] U) X.env) (λv G=>∃e y ob q C vs,v=.ref e/\XC G.heap C ob q/\G.heap.get? e=some y/\y.cls=.ref C/\y.data=.fields vs/\vs[1]?=some .none/\X.xe (.ref e) G) X.xe s:=by
  refine IP (vf I hg hm ?_ B);refine W.callWith_K0 I.gT l.kp ?_;mleft;obtain⟨ob,q,ho,O⟩:=l.xc;mright;mleft;obtain⟨hp,g,d,tk,os⟩:=s;mright;show wpAny _ _ (call (.ref C) []) _ _ _;refine call_exc (O _ I.gT) (looks_findIn I.gT b) (λN=>W.bind_fn I.gT N (beq_iff_eq.mp a)) λh' e M=>?_;obtain⟨j,p,nt⟩:=M.ob;have fe:H e=none:=I.aQ.fresh M.new;have o:Inv X pins σ (upd H e (XO e C j none)) ⟨h',g,d,tk,os⟩:=I.laid (t':=tk) M.keeps M.new (XO.ok p);refine HV (Il (F.run _ X.stack ⟨h',g,d,tk,os⟩ _ ⟨[.ref e],[]⟩ [.ref e] [.ref e] _ E0 (hr.make C [] []) (o.Yc.make C [] []) (hb _ [.ref e] o.gT rfl) (.cons rfl .nil) (h e j fe nt)) λr s' Y=>?_);cases r with
  |error x=>exact False.elim Y
  |ok fl =>
   cases fl with
   |ret u =>
    mleft;obtain⟨v,H',n,rv,ev,t1,dx,i,q3⟩:=o.after Y;mright;subst ev;refine⟨rv,?_⟩;have J:=XO.at_ n i;have I4:=aat n i;refine⟨e,_,ob,q,C,_,rfl,O _ n.gT,J,rfl,rfl,rfl,?_⟩;exact L pins σ (del H' e) s' e dx (.ref C) none ⟨I4,.first ⟨_,_,J,rfl,rfl,rfl,rfl⟩,jt.of I M.new kh,λT z=>by cases z⟩ q3
   |next=>exact False.elim Y
   |brk=>exact False.elim Y
   |cont=>exact False.elim Y
 exact aA (AS (T4 (I.ok.hd c) (aA (aZ Q λv G z=>aA (AS (bf z))))))
end
end
section
open PySem.W (Looks InstAt findIn looks_findIn)
abbrev CT(X:Cx)(e:Value)(E:b7):Cx:={ X with A:=X.A.mark (some e),calm:=false,xe:=E }
section
variable{X:Cx}{pins:bO}{σ:L2.St}{H:Hp}{s:Shared}{a dx T:Addr}{C:Value}{own:Option Addr}
theorem RM(I:Inv X pins σ H s)(e:Value)(E:b7):Inv (CT X e E) pins σ H s:=
 ⟨⟨I.ok.mod,I.ok.kind,I.ok.glob,I.ok.blt,I.ok.above,I.ok.inj,I.ok.has,I.ok.N8,(λz=>by cases z),I.ok.frames,I.ok.B6,I.ok.Lc,I.ok.bs,I.ok.BW,I.ok.GJ,I.ok.Dz,I.ok.qL,I.ok.JU⟩,I.os,I.bare,I.base,I.loc,I.cell,I.free,I.g7,I.pin,I.aQ,I.len⟩
theorem Wi{e:Value}{E:b7}(ok:X.Ok)(I:Inv (CT X e E) pins σ H s):Inv X pins σ H s:=⟨ok,I.os,I.bare,I.base,I.loc,I.cell,I.free,I.g7,I.pin,I.aQ,I.len⟩
theorem Lp{h':Heap}(I:V0 X pins σ H s a dx C own){Q:Value}(N:NW (pP X.stack) a C dx Q own s.heap h'):Inv X pins σ H { s with heap:=h' }:=by
 have aQ:fH X.prog X.w H h':=Lq (T:=a) I N I.iM.free λ_ _=>rfl;have O:∀b∈a::own.toList,jt X pins H b:=λb Y=>by
  rcases b0.mp Y with rfl|Y
  .exact I.iM
  exact I.tb b (by simpa using Y)
 refine I.inv.call (t':=s.toks) (g':=s.gens) (d':=s.drawn) (ch:=a::own.toList) ⟨λb o q _ Y U=>?_,λb o q _ Y U=>?_,λ_ _ _ n _=>n,λb o q _=>N.there b o q,λ_ _ q=>q,λ_ _ _ q=>q,λ_ ps q=>⟨#[],by rw[q];simp⟩⟩ aQ I.inv.bare λb Y=>?_
 .exact N.keep b o q Y (λz=>U (by simp[z])) (λz=>U (by simp[z]))
 .exact N.slot b o q Y (λz=>U (by simp[z])) (λz=>U (by simp[z]))
 have m:=O b Y;exact⟨.inr m.new,m.loc,m.cells,m.pins⟩
def XT(a:Addr)(C:Value)(dx T:Addr):HO:=.ext λh=>Ex h a C dx (.ref T)
theorem Wj(I:Inv X pins σ H s)(m:jt X pins H a)(x:Ex s.heap a C dx (.ref T)):Inv X pins σ (upd H a (XT a C dx T)) s:=by
 have fr:∀b,b≠a->H b=none->upd H a (XT a C dx T) b=none:=λb z q=>by rw[aj z];exact q
 refine⟨I.ok,I.os,I.bare,⟨I.base.keep,I.base.slot,λb o q n N=>?_,I.base.there,λb xs q=>?_,λb o xs q=>?_,λb ps q=>?_⟩,I.loc,I.cell,?_,λy c e=>?_,λp O=>?_,?_,I.len⟩
 .exact fr b (qe (bV q) m.new) (I.base.free b o q n N)
 .have Y:=I.base.tJ b xs q;rw[aj (aO Y m.free)];exact Y
 .have Y:=I.base.qN b o xs q;rw[aj (aO Y m.free)];exact Y
 .obtain⟨U,Y⟩:=I.base.tM b ps q;exact⟨U,by rw[aj (aO Y m.free)];exact Y⟩
 .exact fr _ (bq m.loc) I.free
 .exact fr c (m.cells y c e) (I.g7 y c e)
 .obtain⟨Q,M,L⟩:=I.pin p O;exact⟨Q,fr p.1 (m.pins p O) M,L⟩
 intro b o q;by_cases z:b=a
 .subst z;rw[af]at q;cases q;mleft;obtain⟨J,vs,Q,_⟩:=x.ex;mright;exact⟨x,⟨J,Q⟩,λG E p k=>p.keeps k⟩
 rw[aj z]at q;refine(I.aQ b o q).lq (λ_ _ _ r=>r) (λc r=>?_) λc xs r=>?_
 .rw[aj (aO r m.free)];exact r
 rw[aj (aO r m.free)];exact r
theorem Q0{φ:Heap->Prop}(I:Inv X pins σ H s)(U:H a=some (.ext φ)):Inv X pins σ (del H a) s:=by
 have Y:∀b o,H b=some o->o≠.ext φ->b≠a:=λb o q n z=>by rw[z,U]at q;cases q;exact n rfl
 have fr:∀b,H b=none->del H a b=none:=λb q=>by
  by_cases z:b=a
  .rw[z];exact kh
  rw[eN z];exact q
 refine I.un (h':=s.heap) (t':=s.toks) ⟨λb o q _ _ _=>q,λb o q _ _ _=>⟨o.slots,q⟩,λb o q n _=>fr b n,λb o q _=>⟨o,q⟩,λb xs q=>?_,λb o xs q=>?_,λb ps q=>⟨#[],?_⟩⟩ ?_
 .rw[eN (Y b _ q (by intro z;cases z))];exact q
 .rw[eN (Y b _ q (by intro z;cases z))];exact q
 .rw[eN (Y b _ q (by intro z;cases z)),q];simp
 intro b o q;have T:b≠a:=λz=>by rw[z,kh]at q;cases q
 rw[eN T]at q;refine(I.aQ b o q).lq (λ_ _ _ r=>r) (λc r=>?_) λc xs r=>?_
 .rw[eN (Y c _ r (by intro w;cases w))];exact r
 rw[eN (Y c _ r (by intro w;cases w))];exact r
end
def acj(K:W.Frag)(U:TE)(f:Str):TE:=λσ H Q=>U σ H λx H1=>∃a C Y T fs v,x=.ref a/\H1 a=some (XT a (.ref C) Y T)/\LX.XK K C/\findIn K (.ref C) f=some none/\H1 Y=some (.xd fs)/\fs.lookup f=some v/\Q v H1
theorem aaD{X:Cx}{e:Expr}{f:Str}{U:Pos}{L:TE}(D:PE X e L)(B:attributeBase e f X.env (eval e X.env)=eval e X.env):PE X (.Attribute e f U) (acj X.K L f):=by
 intro pins s σ H Q I h;refine KU B (aZ (D pins s σ H _ I h) λu J O=>?_);mleft;obtain⟨x,H1,Y,A,a,C,G,T,fs,v,ex,z,N,y,r,l,q⟩:=O;mright;subst ex;obtain rfl:u=Value.ref a:=A;mleft;obtain⟨ob,bm,ho,p⟩:=N.xc;mright;obtain⟨x,_,_⟩:=Y.aQ a _ z;obtain⟨n,M,hr⟩:=Y.aQ G _ r;have m:Ex J.heap a (.ref C) G (.ref T):=x;mleft;obtain⟨oe,vs,j,i,c,b,e5⟩:=m.ex;mright;obtain⟨u',hu,E⟩:=mD.some_of (v:=v) (o:=n f) (by rw[<-l];exact hr f)
 mleft;obtain⟨hp,g,d,tk,os⟩:=J;mright;exact Z8 Y.gT (p _ Y.gT) N.ga N.gt y j i c b M hu (W.handedOut_of (Mh E)) λt'=>⟨v,H1,Y.tok t',E,q⟩
def EH(K:W.Frag)(U:Addr)(f:Str)(T:VK):L2.XK:=λQ O H=>∃(C Y:Addr) (fs:List (Str×V)) (v:V),Q=.ref C/\O=some Y/\LX.XK K C/\W.exmOne K (.ref C) (.ref U)=some true/\findIn K (.ref C) f=some none/\H Y=some (.xd fs)/\fs.lookup f=some v/\∀p,H p=none->T (.ref p) (upd H p (.lst [v]))
abbrev RY(X:Cx)(pn:bO)(E:b7):Cx:={ X with pn:=pn,xe:=E }
section
variable{X:Cx}{pins pins':bO}{σ:L2.St}{H:Hp}{s:Shared}
theorem ZW(I:Inv X pins σ H s)(E:b7):Inv (RY X (X.pn++pins) E) [] σ H s:=
 ⟨⟨I.ok.mod,I.ok.kind,I.ok.glob,I.ok.blt,I.ok.above,I.ok.inj,I.ok.has,I.ok.N8,I.ok.hd,I.ok.frames,I.ok.B6,I.ok.Lc,I.ok.bs,I.ok.BW,I.ok.GJ,I.ok.Dz,I.ok.qL,I.ok.JU⟩,I.os,I.bare,I.base,I.loc,I.cell,I.free,I.g7,(λp Y=>I.pin p (by simpa using Y)),I.aQ,I.len⟩
theorem Ef{E:b7}(ok:X.Ok)(I:Inv (RY X (X.pn++pins) E) pins' σ H s):Inv X pins σ H s:=
 ⟨ok,I.os,I.bare,I.base,I.loc,I.cell,I.free,I.g7,(λp Y=>I.pin p (ND _ Y)),I.aQ,I.len⟩
theorem Z5{h':Heap}{L:Str->Option Value}{tk:Nat}(I:Inv X pins σ H s)(E:h'.Ns X.env.locals L)(D:Heap.SameBut X.env.locals s.heap h'):Inv X pins (List.replicate X.N.length none) H { s with heap:=h',toks:=tk }:=by
 have C:=I.ok.above;have k:∀b o,b≠X.env.locals->s.heap.get? b=some o->h'.get? b=some o:=λb o z q=>(D.2 b z).trans q;have Q:∀b o,X.m7.heap.get? b=some o->b≠X.env.locals:=λb o q=>qe (bV q) C;refine⟨I.ok,I.os,I.bare,⟨λb o q n O T=>k b o (Q b o q) (I.base.keep b o q n O T),λb o q n O T=>?_,I.base.free,λb o q T=>?_,I.base.tJ,I.base.qN,I.base.tM⟩,⟨L,E,λi x v Y U=>?_⟩,λx c e=>?_,I.free,I.g7,λp B=>?_,?_,by simp⟩
 .obtain⟨A,Y⟩:=I.base.slot b o q n O T;exact⟨A,k b _ (Q b o q) Y⟩
 .obtain⟨J,Y⟩:=I.base.there b o q T;exact⟨J,k b J (Q b o q) Y⟩
 .rw[Y2]at U;split at U<;>cases U
 .mleft;obtain⟨v,o,Y,U⟩:=I.cell x c e;mright;exact⟨v,o,k c o (I.Ls x c e) Y,U⟩
 .mleft;obtain⟨Y,U,G,y⟩:=I.pin p B;mright;exact⟨k p.1 p.2 G Y,U,G,y⟩
 intro b o q;refine(I.aQ b o q).lq (λc v M r=>k c v ?_ r) (λ_ r=>r) λ_ _ r=>r;rcases M with rfl|M
 .exact aO q I.free
 exact aO M I.free
end
theorem Yd{X:Cx}{G:List Stmt}{C0:Addr}{x n f:Str}{j:Nat}{np M c p3 p4 U av:Pos}{tb:L2.XK->TS}(hN:X.N.Nodup)(hj:X.N[j]?=some n)(hl:X.env.scope.names.lookup n=some .local)(ab:X.stack=X.env::X.outer)(aL:X.env.frame=some X.env.locals)
  (hg:Gl X x) (hm:X.mg x=some (.ref C0)) (hb:∀(E:L2.XK) (pn:bO) (al:b7),Lets (RY X pn al) E->uM (RY X pn al) G (tb E)) (a0:(x==("__debug__":Str))=false:=by decide)
  (a1:∀e E,attributeBase (.Name n M) f (CT X e E).env (eval (.Name n M) (CT X e E).env)=eval (.Name n M) (CT X e E).env:=by intro _ _;rfl) (a2:(n==("__debug__":Str))=false:=by decide) (a3:(n==("__classdict__":Str))=false:=by decide)
  (a4:∀e E,starEach [.Attribute (.Name n M) f c] (CT X e E).env=[(false,eval (.Attribute (.Name n M) f c) (CT X e E).env)]:=by intro _ _;rfl) :
  PS X (.Try G [.ExceptHandler (some (.Name x np)) (some n) [.Return (some (.List [.Attribute (.Name n M) f c] p3)) p4] U] [] [] av) (λD σ H=>tb (EH X.K C0 f D.rt) { D with bk:=λ_ _=>False,ct:=λ_ _=>False } σ H):=by
 intro pins s σ H D I h;refine wpAny_Try_except ?_;have a5:(X.env::X.outer).filterMap (·.frame)=pP X.stack:=by rw[ab];rfl
 have L:Lets (RY X (X.pn++pins) λe s1=>wpAny (model X.prog X.w) X.A (noteFrame e X.env) (λ_ s2=>wpAny (model X.prog X.w) X.A (setFlight e none) (λ_ s3=>wpAny (model X.prog X.w) X.A (handleBy e X.env [.ExceptHandler (some (.Name x np)) (some n) [.Return (some (.List [.Attribute (.Name n M) f c] p3)) p4] U]) (SP X pins D) X.xe s3) X.xe s2) X.xe s1) (EH X.K C0 f D.rt):=by
  intro l Q H1 s1 a dx0 C1 own J q;mleft;obtain⟨C,g,fs,v,rfl,e1,xk,ex,hn,hd,a6,rt⟩:=q;mright;have e2:g=dx0:=(cp e1).symm;subst e2;have m0:∀b,jt (RY X (X.pn++pins) λe s1=>wpAny (model X.prog X.w) X.A (noteFrame e X.env) (λ_ s2=>wpAny (model X.prog X.w) X.A (setFlight e none) (λ_ s3=>wpAny (model X.prog X.w) X.A (handleBy e X.env [.ExceptHandler (some (.Name x np)) (some n) [.Return (some (.List [.Attribute (.Name n M) f c] p3)) p4] U]) (SP X pins D) X.xe s3) X.xe s2) X.xe s1) l H1 b->jt X pins H1 b:=
   λb m=>⟨m.free,m.new,m.loc,m.fs,m.cells,λp B=>m.pins p (ND _ B)⟩
  have I1:Inv X pins Q H1 s1:=Ef I.ok J.inv;have Y:V0 X pins Q H1 s1 a g (.ref C) own:=⟨I1,J.Py,m0 a J.iM,λT e=>m0 T (J.tb T e)⟩;have B6:=I1.stack;have am:=I1.ok.frames;rw[ab]at B6 am;show wpAny _ _ (noteFrame (.ref a) X.env) _ _ s1;refine Kq am B6 aL Y.Py λh2 Nt=>?_;rw[a5]at Nt;have I2:=Lp Y Nt;mleft;obtain⟨⟨T,n1,n2,n3,n4⟩,k1,k2,k3,k4⟩:=Nt;mright;have O:jt X pins H1 T:=n4.elim (λz=>jt.of I1 z (I1.aQ.fresh z)) (λz=>Y.tb T z);refine Ky n1 n2 n3 λh3 x3 t3 a7 _ _=>?_;have I3:Inv X pins Q H1 { s1 with heap:=h3 }:=I2.turned (t':=s1.toks) (λb o hb e=>(a7 b hb).trans e) O.free O.loc (.inr O.new) O.cells O.pins
  have I4:=RM I3 (.ref a) (λ_ _=>False);mleft;obtain⟨mA,⟨od,es,ep,a8,_⟩,_⟩:=I3.aQ g _ hd;mright;mleft;obtain⟨oe,vs,g1,g2,g3,g4,g5⟩:=x3.ex;mright;have IA:InstAt h3 a oe C (some od):=⟨g1,g2,by unfold W.notCls;rw[g4],by rw[g3];exact a8⟩
  refine wpAny_handleBy_cons (codeAny_handlers_test ?_) (by intro z;cases z)
  refine UP (vf (X:=CT X (.ref a) λ_ _=>False) I4 hg hm ?_ a0);refine(W.exm_one I3.gT IA.type ex).here (s:={ s1 with heap:=h3 }) ?_
  refine codeAny_handlers_suite_as ?_;refine Ky x3 t3 n3 λh5 x5 t5 a9 _ _=>?_;have I5:Inv X pins Q H1 { s1 with heap:=h5 }:=I3.turned (t':=s1.toks) (λb o hb e=>(a9 b hb).trans e) O.free O.loc (.inr O.new) O.cells O.pins
  have I6:=RM I5 (.ref a) (λ_ _=>False);have ba:jt (CT X (.ref a) λ_ _=>False) pins H1 a:=⟨Y.iM.free,Y.iM.new,Y.iM.loc,Y.iM.fs,Y.iM.cells,Y.iM.pins⟩;have bb:=Wj I6 ba x5;refine UP (AU (X:=CT X (.ref a) λ_ _=>False) bb hN hj (.inl hl) (v:=.ref a) rfl (λs7 I7=>?_) (.inr hl));have I8:=I7;have bc:g≠a:=λz=>by rw[z,Y.iM.free]at hd;cases hd
  have bd:uM (CT X (.ref a) λ_ _=>False) [.Return (some (.List [.Attribute (.Name n M) f c] p3)) p4] _:=ak (aK (dt (aa (aaD (VW (i:=j) hj (.inl hl) a2 a3) (a1 _ _)) ai (a4 _ _))));refine UP (i5 (bd pins s7 _ _ { nx:=λ_ _=>False,rt:=λy H'=>∃p,y=.ref p/\H1 p=none/\p≠a/\H'=upd (upd H1 a (XT a (.ref C) g T)) p (.lst [v]) } I8 ?_) (λfl s8 q8=>?_) λ_ _ z=>z)
  .refine KJ.mpr ⟨_,?_,a,C,g,T,fs,v,rfl,af,xk,hn,(by rw[aj bc];exact hd),a6,(by show 1<=sizeLine;decide),λp B=>⟨p,rfl,?_,?_,rfl⟩⟩
   .have an:j<Q.length:=by
     rw[I5.len];exact(dE.mp hj).1
    exact Bs an
   .by_cases z:p=a
    .rw[z];exact Y.iM.free
    rw[aj z]at B;exact B
   intro z;rw[z,af]at B;cases B
  cases fl with
  |next =>
   mleft;obtain⟨_,_,_,z⟩:=q8;mright;exact z.elim
  |brk =>
   mleft;obtain⟨_,_,_,z⟩:=q8;mright;exact z.elim
  |cont =>
   mleft;obtain⟨_,_,_,z⟩:=q8;mright;exact z.elim
  |ret u =>
   mleft;obtain⟨y,be,H9,I9,r9,p,rfl,B,ap,rfl⟩:=q8;mright;have ar:Inv X pins be _ s8:=Wi I.ok I9;obtain⟨m,bi,_⟩:=ar.loc;refine wpAny_nameGoes hl bi (by rw[I.ok.kind];rfl) λbr bt bl sb=>?_
   have bm:=Z5 (tk:=s8.toks+1) ar bl sb;have bn:=Q0 (a:=a) bm (by rw[aj (bq ap),af];rfl)
   refine⟨.ref p,_,_,bn,r9,?_⟩;have eH:del (upd (upd H1 a (XT a (.ref C) g T)) p (.lst [v])) a=upd H1 p (.lst [v]):=by
    funext b;by_cases z:b=a
    .rw[z,kh,aj (bq ap),Y.iM.free]
    rw[eN z];by_cases z2:b=p
    .rw[z2,af,af]
    rw[aj z2,aj z,aj z2]
   rw[eH];exact rt p B
 refine i5 (hb _ _ _ L [] s σ H _ (ZW I _) h) (λfl s1 q=>?_) λ_ _ z=>z;cases fl with
 |next =>
  mleft;obtain⟨d,H',I',z⟩:=q;mright;exact Js ⟨d,H',Ef I.ok I',z⟩
 |ret v =>
  mleft;obtain⟨u,d,H',I',r,z⟩:=q;mright;exact⟨u,d,H',Ef I.ok I',r,z⟩
 |brk =>
  mleft;obtain⟨_,_,_,z⟩:=q;mright;exact z.elim
 |cont =>
  mleft;obtain⟨_,_,_,z⟩:=q;mright;exact z.elim
end
section
variable{scope:Scope}
theorem Xt{env Y:Env}(h:Y.frame=env.frame)(e:Value):noteFrame e Y=noteFrame e env:=by
 unfold noteFrame PySem.frameOf;rw[h]
abbrev zT(X:Cx)(s:Shared)(H:Hp)(scope:Scope)(Y:Env)(U:List Addr)(E:b7):Cx:={ X.gc s H scope Y U with xe:=E }
theorem Ys{X:Cx}{pins:bO}{σ:L2.St}{I:Hp}{U:Shared}{Y:Env}{H:List Addr}{E:L2.XK}{use:Option (Value->Sem Unit)}{Qf:b7}{D:Value}(L:Lets X E)(G:X.stack=X.env::X.outer)(j:X.env.frame=some X.env.locals)
  (r:Inv X pins σ I U) (p:∀b∈H,oX X pins I b/\b<U.heap.objs.size) (i:Y.frame=X.env.frame) (cL:Y.locals=U.heap.objs.size) :
  Lets (zT X U I scope Y H (notedBy (model X.prog X.w) X.A Y λx s'=>compPost (model X.prog X.w) X.A X.xe use Qf D U.heap.objs.size (.error x) s')) E:=by
 intro O ap H1 N a g C own J q;have f:=J.inv;have B:∀{y:L2.St} {d:Hp} {s':Shared} {p':bO} {E':b7},Inv (zT X U I scope Y H E') p' y d s'->Inv X pins σ d s':=λ{y d s' p' E'} n =>
  r.Nl (ch:=H) n.os n.base n.aQ n.bare λb Q=>⟨(p b Q).1.2.2.2.1,(p b Q).1.2.1,(p b Q).1.2.2.2.2.1,(p b Q).1.2.2.2.2.2⟩
 have iM:∀b,jt (zT X U I scope Y H (notedBy (model X.prog X.w) X.A Y λx s'=>compPost (model X.prog X.w) X.A X.xe use Qf D U.heap.objs.size (.error x) s')) O H1 b->jt X pins H1 b:=λb m =>
  jt.of r m.new m.free
 have v:=B f;have c:V0 X pins σ H1 N a g C own:=⟨v,J.Py,iM a J.iM,λT z=>iM T (J.tb T z)⟩;show wpAny _ _ (noteFrame (.ref a) Y) _ _ N;rw[Xt i];have B6:=v.stack;have u:=v.ok.frames;rw[G]at B6 u;have ab:(X.env::X.outer).filterMap (·.frame)=pP X.stack:=by rw[G];rfl
 refine Kq u B6 j J.Py λh2 l=>?_;rw[ab]at l;have I2:=Lp c l;mleft;obtain⟨m,⟨oL,es,ep,al,rL⟩,_⟩:=f.loc;mright;have gL:N.heap.get? Y.locals=some oL:=al;have am:Y.locals∉pP X.stack:=λz=>by
  mleft;obtain⟨_,o,ho,_⟩:=r.stack.mem z;mright;exact qe (bV ho) (yA cL.symm) rfl
 have kL:h2.get? Y.locals=some oL:=l.keep _ _ gL am (bq J.iM.loc) λz=>(J.tb _ z).loc rfl;mleft;obtain⟨⟨T,n1,n2,n3,n4⟩,k1,k2,k3,k4⟩:=l;mright;have M:jt X pins H1 T:=n4.elim (λz=>jt.of v z (v.aQ.fresh z)) (λz=>c.tb T z);have hm:h2.Ns Y.locals m:=⟨oL,es,ep,kL,rL⟩;have aL:a≠Y.locals:=J.iM.loc;have TL:T≠Y.locals:=n4.elim (λz w=>qe (bV gL) z w.symm) (λz=>(J.tb T z).loc);have fL:H1 Y.locals=none:=f.free;rw[cL]at hm aL TL fL;refine⟨m,hm,λh' sb an hc=>?_⟩;have x':Ex h' a C g (.ref T):=n1.keeps λo e=>(sb.2 a aL).trans e;have t':Tb h' T (rawInt X.env.locals):=n2.keeps λo e=>(sb.2 T TL).trans e;have s:jt X pins H1 U.heap.objs.size:=jt.of r (bD _) fL;have I4:Inv X pins σ H1 { N with heap:=h' }:=I2.turned (t':=N.toks) (λb o Q e=>(sb.2 b Q).trans e) s.free s.loc (.inr s.new) s.cells s.pins
 unfold PySem.passOn;mleft;obtain⟨oe,vs,e1,e2,e3,e4,e5⟩:=x'.ex;mright;refine aA (qh e1 e4 e5 ?_);rw[ae (show ¬((Value.ref T==Value.none)=true)from by simp)]
 refine aA (WD x' t' n3 λh5 f5 k5=>?_);have I5:Inv X pins σ H1 { N with heap:=h5 }:=I4.turned (t':=N.toks) (λb o Q e=>(k5 b Q).trans e) M.free M.loc (.inr M.new) M.cells M.pins
 exact wpAny_throw (L pins σ H1 _ a g C (some T) ⟨I5,f5,c.iM,λT' z=>by cases z;exact M⟩ q)
section
variable{X:Cx}
theorem PK{pins:bO}{s:Shared}{σ:L2.St}{H:Hp}{Q:VK}{f tg iter:Expr}{d:List Expr}{own:List (Str×Nat)}{am ar:Pos}{wi:TI}{g:TG}{tt:TT}{te:TE}{use:Option (Value->Sem Unit)}{Qf:b7}{E:L2.XK}(L:Lets X E)(ba:X.stack=X.env::X.outer)(bb:X.env.frame=some X.env.locals)
  (hc:X.calm=true) (hN:X.N.Nodup) (I:Inv X pins σ H s) (hi:PI X tg iter wi) (ok:xf X.N X.env.scope scope own)
  (hg:∀(s:Shared) (H:Hp) (C:Addr) (cl:List (Str×Addr)) (Y:List Addr),PG (X.gc s H scope (compEnvC scope cl C X.env) Y) tg g) (ht:∀(s:Shared) (H:Hp) (C:Addr) (cl:List (Str×Addr)) (Y:List Addr),LY (X.gc s H scope (compEnvC scope cl C X.env) Y) d tt)
  (he:∀(s:Shared) (H:Hp) (C:Addr) (cl:List (Str×Addr)) (Y:List Addr) (xe:b7),Lets (zT X s H scope (compEnvC scope cl C X.env) Y xe) E->PE (zT X s H scope (compEnvC scope cl C X.env) Y xe) f te) (hs:∀x,foldedSetIterable iter X.env x=pure x)
  (h:vV wi g tt te (own.map (·.2)) σ H Q)
  (bc:∀D C M m H',Inv X pins σ H' M->Q (.ref D) H'->M.heap.Ns C m->oX X pins H' C->compPost (model X.prog X.w) X.A X.xe use Qf (.ref D) C (.ok .next) M) :
  wpAny (model X.prog X.w) X.A (comprehension (.ListComp f [⟨tg,iter,d,0⟩] scope am) scope X.env ar (newList []) false (eval iter X.env) use) Qf X.xe s:=by
 have an:∀y∈scope.names,y.2=.free->∃c,X.env.cells.lookup y.1=some c:=λy hy e=>by
  rcases ok.free y hy e with k|k
  .exact I.ok.has _ (.inl k)
  exact I.ok.has _ (.inr k)
 refine wpAny_comprehension_free (use:=use) rfl hs (Iw an) ok.kind (λy hy e=>by rw[ok.uniq y hy,e])
  (aZ (hi pins s σ H _ I h) λxv s1 hx=>aZ hx λbx s2 h2=>?_)
 mleft;obtain⟨it,Y,tn,J,H2,e,I2,T,av,f2,q⟩:=h2;mright;subst e;refine z8 (FX ?_) (by show 0<=sizeLine;decide)
 generalize hD:s2.heap.objs.size=D;have bd:H2 D=none:=I2.aQ.fresh (yA hD);mleft;obtain⟨W,⟨m0,w0⟩,aL⟩:=q D bd;mright;generalize a0:({ s2 with heap:=s2.heap.push { cls:=.type "list",data:=.seq ([]:List Value).toArray } }:Shared)=s3
 have I3:Inv X pins σ (upd H2 D (.lst [])) s3:=by
  rw[<-a0];refine I2.laid (t':=s2.toks) (λb o e=>cA _ e) (yA hD) ⟨dy _,[],0,.nil,?_⟩;rw[<-hD];exact eR _ rfl
 have h3:s3.heap=s2.heap.push { cls:=.type "list",data:=.seq ([]:List Value).toArray }:=by rw[<-a0]
 have sz:∀b∈Y,b<s2.heap.objs.size:=λb U=>by
  obtain⟨o,e,_⟩:=T.obj _ _ av b U;exact bV e
 have f3:∀b∈Y,oX X pins (upd H2 D (.lst [])) b/\b<s3.heap.objs.size:=λb U=>by
  have a1:=sz b U;refine⟨⟨?_,(f2 b U).2⟩,by rw[h3,lJ];exact NK a1⟩
  rw[aj (by rw[<-hD];exact fZ a1)]
  exact(f2 b U).1
 have be:tn 0 s3.heap:=T.keep _ _ _ av λb _ o e=>by rw[h3];exact cA _ e
 have I4:=Fz I3 ok hN f3;have pg:=hg s3 (upd H2 D (.lst [])) s3.heap.objs.size (cellsFrom (s3.heap.objs.size+1) scope.names (cR X.env.cells scope.names [])) Y;have pt:=ht s3 (upd H2 D (.lst [])) s3.heap.objs.size (cellsFrom (s3.heap.objs.size+1) scope.names (cR X.env.cells scope.names [])) Y;have pe:=λDv=>he s3 (upd H2 D (.lst [])) s3.heap.objs.size (cellsFrom (s3.heap.objs.size+1) scope.names (cR X.env.cells scope.names [])) Y _ (Ys (use:=use) (Qf:=Qf) (D:=Dv) L ba bb I3 f3 rfl rfl);show codeAny _ _ (.compStart (.ListComp f [⟨tg,iter,d,0⟩] scope am) 0 (.ref it) (.ref D) (compEnvC scope (cellsFrom (s3.heap.objs.size+1) scope.names (cR X.env.cells scope.names [])) s3.heap.objs.size X.env)) (compPost (model X.prog X.w) X.A X.xe use Qf (.ref D) s3.heap.objs.size) { s3 with heap:=pushCells (s3.heap.push { cls:=.type "dict",data:=.dict #[] }) scope.names }
 have a2:∀b∈Y,(upd H2 D (.lst [])) b=none:=λb U=>(f3 b U).1.1;generalize bi:compEnvC scope (cellsFrom (s3.heap.objs.size+1) scope.names (cR X.env.cells scope.names [])) s3.heap.objs.size X.env=G at I4 pg pt pe ⊢;have cL:G.locals=s3.heap.objs.size:=by subst bi;rfl
 generalize b1:upd H2 D (.lst [])=l at I3 I4 pg pt pe w0 a2 f3;generalize bl:({ s3 with heap:=pushCells (s3.heap.push { cls:=.type "dict",data:=.dict #[] }) scope.names }:Shared)=s4 at I4 ⊢
 have a3:tn 0 s4.heap:=T.keep _ _ _ be λb _ o e=>by rw[<-bl];exact Ia _ _ _ _ (cA _ e)
 have B:∀{a4:L2.St} {H':Hp} {M:Shared},Inv (X.gc s3 l scope G Y) [] a4 H' M->(∀b∈Y,H' b=none)->∀b∈Y,oX (X.gc s3 l scope G Y) [] H' b:=λ{a4 H' M} I' hn b U =>
  ⟨hn b U,(I'.ok.Lc b U).1,I'.ok.Dz b U,.inl U,λx c e=>(I'.ok.Lc b U).2 x c e,λp hp=>absurd (show p∈([]:bO)++[]from hp) aP⟩
 have ab:codeAny (model X.prog X.w) X.A (.compLoop (.ListComp f [⟨tg,iter,d,0⟩] scope am) 0 (.ref it) (.ref D) G) (compPost (model X.prog X.w) X.A X.xe use Qf (.ref D) s3.heap.objs.size) s4:=by
  refine CU (λn M=>∃i H',Inv (X.gc s3 l scope G Y) [] (wipe σ (own.map (·.2))) H' M/\tn i M.heap/\(∀b∈Y,H' b=none)/\W i n H') ?_ m0 ⟨0,l,I4,a3,a2,w0⟩;rintro n s5 ⟨i,H5,I5,a5,n5,w5⟩;rcases aL i n H5 w5 with⟨stop,qq⟩|⟨go,Nx,bm,step⟩
  .have td:=T.done (X.gc s3 l scope G Y) rfl rfl rfl hc i [] s5 _ H5 (λ_ _=>False) I5 (B I5 n5) a5 stop;refine vN td λr s6 O=>?_;obtain⟨hr,I6⟩:=O;subst hr;have I7:Inv X pins σ H5 s6:=I3.Nl (ch:=Y) I6.os I6.base I6.aQ I6.bare λb U=>⟨(f3 b U).1.2.2.2.1,(f3 b U).1.2.1,(f3 b U).1.2.2.2.2.1,(f3 b U).1.2.2.2.2.2⟩;have nC:H5 s3.heap.objs.size=none:=by
    have z:H5 G.locals=none:=I6.free;rw[cL]at z;exact z
   obtain⟨m,hn,_⟩:=I6.loc;have hn:s6.heap.Ns G.locals m:=hn;rw[cL]at hn;exact bc D s3.heap.objs.size s6 m H5 I7 qq hn (I3.Gw (bD _) nC)
  have ti:=T.item (X.gc s3 l scope G Y) rfl rfl rfl hc i [] s5 _ H5 (λ_ _=>False) I5 (B I5 n5) a5 go;refine vN ti λr s6 O=>?_;obtain⟨u,hr,h6⟩:=O;subst hr;refine vN h6 λ_ s7 O=>?_;mleft;obtain⟨x,H7,I7,r7,y7,ap,n7⟩:=O;mright;have bn:=I7.pinned (B I7 n7) (T.obj _ _ ap);refine vN (pg _ s7 _ H7 x u _ bn r7 (step x H7 y7)) λ_ s8 O=>?_;mleft;obtain⟨a,H8,I8,a6,q8⟩:=O;mright;refine vN (pt _ s8 a H8 _ I8 q8) λb s9 O=>?_;obtain⟨H9,I9,q9⟩:=O;have fin:∀{M:Shared} {H':Hp},Inv (X.gc s3 l scope G Y) ([]++zG Y s7.heap) a H' M->Nx H'->∃m,m<n/\∃i H',Inv (X.gc s3 l scope G Y) [] (wipe σ (own.map (·.2))) H' M/\tn i M.heap/\(∀b∈Y,H' b=none)/\W i m H':=λ{M H'} I' nx=>by
   obtain⟨m',hm,w'⟩:=bm H' nx;have al:∀b∈Y,∀o,s7.heap.get? b=some o->M.heap.get? b=some o/\H' b=none:=λb U o e =>
    let z:=I'.pin (b,o) (um _ (um _ (uY U e)))
    ⟨z.1,z.2.1⟩
   have hl:(wipe σ (own.map (·.2))).length=a.length:=by rw[<-a6,su]
   refine⟨m',hm,i+1,H',(I'.wd (pins:=[])).weak hl (λj v e=>?_),T.keep _ _ _ ap λb U o e=>(al b U o e).1,λb U=>?_,w'⟩
   .rw[<-a6]at e;exact(w8 e).1
   obtain⟨o,e,_⟩:=T.obj _ _ ap b U;exact(al b U o e).2
  cases b with
  |false =>
   simp only[oN,gA]at q9 ⊢;exact fin I9 q9
  |true =>
   simp only[dB]at q9 ⊢;refine i5 (pe (.ref D) _ s9 a H9 _ (I9.uz _) q9) (λz b2 O=>?_) λ_ _ z=>z;mleft;obtain⟨yv,b3,a7,br,acc,a8,a9,nx⟩:=O;mright;have bt:=a7.nQ (X:=X.gc s3 l scope G Y);exact Wv (X:=X.gc s3 l scope G Y) bt a8 a9 br λb4 bv=>fin bv nx
 exact codeAny_compStart_list ab (T.self X.A 0 _ _ _ a3 ab)
theorem abE{U O iter:Expr}{T:List Expr}{own:List (Str×Nat)}{M:Pos}{B:TI}{g:TG}{A:TT}{z:TE}{E:L2.XK}(L:Lets X E)(J:X.stack=X.env::X.outer)(G:X.env.frame=some X.env.locals)(v:X.calm=true)(u:X.N.Nodup)(r:PI X O iter B)(ok:xf X.N X.env.scope scope own)
  (p:∀(s:Shared) (H:Hp) (C:Addr) (cl:List (Str×Addr)) (Y:List Addr),PG (X.gc s H scope (compEnvC scope cl C X.env) Y) O g) (n:∀(s:Shared) (H:Hp) (C:Addr) (cl:List (Str×Addr)) (Y:List Addr),LY (X.gc s H scope (compEnvC scope cl C X.env) Y) T A)
  (l:∀(s:Shared) (H:Hp) (C:Addr) (cl:List (Str×Addr)) (Y:List Addr) (y:b7),Lets (zT X s H scope (compEnvC scope cl C X.env) Y y) E->PE (zT X s H scope (compEnvC scope cl C X.env) Y y) U z) (j:∀x,foldedSetIterable iter X.env x=pure x:=by intro _;rfl) :
  PE X (.ListComp U [⟨O,iter,T,0⟩] scope M) (vV B g A z (own.map (·.2))):=by
 intro pins s σ H Q I h;rw[eval_ListComp];refine PK L J G v u I r ok p n l j h λD C i m d c q a f=>⟨m,a,λab sb=>?_⟩;mleft;obtain⟨f0,f1,f2,f3,f4,f5⟩:=f;mright;exact⟨.ref D,d,c.turned (t':=i.toks) (λb o hb e=>(sb.2 b hb).trans e) f0 f1 f3 f4 f5,rfl,q⟩
end
end
section
section
variable{X:Cx}
def abn(K:W.Frag):V->List V->Hp->VK->Prop:=λx xs H Q=>∃(a:Addr) (ys:List V) (y:V),x=V.ref a/\xs=[y]/\dn K H a ys/\lA y=true/\ys.all lA=true/\Q (.int (ys.countP λz=>BC z y:Nat)) H
theorem Fb{y:V}:∀{ys:List V} {Y:List Value},Vals ys Y->ys.all lA=true->Y.countP (qT y)=ys.countP λz=>BC z y
 |_,_,.nil,_=>rfl
 |z::ys,u::Y,.cons r U,f=>by
  rw[Hz,gN]at f;rw[List.countP_cons,List.countP_cons,Fb U f.2,OZ r f.1]
theorem Xp:MtR X "list.count" (abn X.K):=by
 intro pins s σ H x xs v us Q I E T h;mleft;obtain⟨a,ys,y,rfl,rfl,D,C,Y,q⟩:=h;mright;cases E;cases T with
 |cons B A =>
  rename_i z l;cases A;mleft;obtain⟨U,N,⟨⟨u,r,M,p⟩,n,L,J,o,hd⟩,G⟩:=I.list D;mright;simp only at J hd;subst J hd;refine wV PySem.F.slot_list_count ⟨_,L,rfl⟩ PySem.F.entry_list_count (PySem.F.args_list_count_2 _ _) (SeqAt.list_countAt a U.toArray n r p z (qT y)) ⟨L,λm O=>rf B C N Y m (by simpa using O),?_⟩
  have e:=Fb (y:=y) N Y;show EP X pins σ Q (.int (U.countP (qT y):Nat) s.toks) _;rw[e];exact⟨.int _,H,I.tok _,⟨_,rfl⟩,q⟩
def abz(i j:Int):Prop:=0<=j/\j<=1000000/\i.natAbs<2 ^ 1000000
theorem vb:iy X (binaryOp .LShift) (rI abz λi j=>.int (i*2 ^ j.toNat)):=Wl λi j _ _ _ _ _ Y q=>by
 refine lshift_int Y.1 ?_ q;have U:=intBits_le Y.2.2;have T:=Y.2.1;have Q:((Builtin.Int.intBits i:Nat):Int)<=1000000:=Int.ofNat_le.mpr U;have O:(1000000:Int)+1000000<=2 ^ 27:=by decide
 exact Int.le_trans (Int.add_le_add Q T) O
def Zl(K:W.Frag):V->V->Hp->VK->Prop:=λx y H Q=>∃p xs i v,x=.ref p/\y=.int i/\0<=i/\dn K H p xs/\xs[i.toNat]?=some v/\Q v H
theorem XH:abp X (Zl X.K):=by
 intro pins s σ H o i G E Q I U T h;mleft;obtain⟨p,xs,k,v,rfl,rfl,O,N,Y,q⟩:=h;mright;cases U;obtain⟨t,rfl⟩:=T;mleft;obtain⟨M,r,pl,hz⟩:=I.list N;mright;obtain⟨u,L,J⟩:=r.get Y;have D:=r.length;have C:=y4;have lt:=(dE.mp Y).1;refine wpAny_getItem_list pl.isList O ao (x:=u) (by simpa using L) ?_
 exact⟨v,H,I,J,q⟩
end
end
end LX
namespace VM
open Sw66 (Syll Alt Cut Metre Line Scan)
theorem ki{α β:Type}:∀(l:List α) {f g:α->List β},(∀x∈l,f x=g x)->l.flatMap f=l.flatMap g
 |[],_,_,_=>rfl
 |a::l,f,g,h=>by
  rw[kb,kb,h a df,ki l λx Y=>h x (cF _ Y)]
def pR:List Nat->List Bool->Nat
 |g::gs,e::Y=>(if e=true then g else 0) ||| pR gs Y
 |_,_=>0
theorem IW:∀(Y:List Nat) (U:List Bool) (T:List Nat) (Q:List Bool),Y.length=U.length->
  pR (Y++T) (U++Q)=pR Y U ||| pR T Q
 |[],[],T,Q,_=>by simp[pR]
 |[],_::_,_,_,h=>by simp at h
 |_::_,[],_,_,h=>by simp at h
 |g::Y,e::U,T,Q,h=>by
  simp only[rQ,pR];rw[IW Y U T Q (by simpa using h),UR]
def cq(l:Line)(Y:List Nat):Line:=((l.zip Y).filter λs=>s.2 != 0).map λs=>s.1
theorem ye(l:Line):cq l []=[]:=by simp[cq]
theorem vF(s:Syll)(l:Line)(ms:List Nat):cq (s::l) (0::ms)=cq l ms:=by simp[cq]
theorem xF(s:Syll)(l:Line)(v:Nat)(ms:List Nat)(h:v≠0):cq (s::l) (v::ms)=s::cq l ms:=by simp[cq,h]
theorem E6:∀(l:Line) (a b:List Nat),a.length<=l.length->cq l (a++b)=cq l a++cq (l.drop a.length) b
 |l,[],b,_=>by simp[ye]
 |[],_::_,_,h=>by simp at h
 |s::l,v::a,b,h=>by
  have Y:=E6 l a b (by simpa using h)
  by_cases U:v=0
  .subst U;simp only[rQ,vF,cT,YL];exact Y
  simp only[rQ,xF _ _ _ _ U,cT,YL];rw[Y]
def fQ(Y:Nat->Syll->Nat):Line->List Nat->Nat
 |s::l,m::r=>Y m s+fQ Y l r
 |_,_=>0
theorem Jo(Y:Nat->Syll->Nat):∀(l:Line) (r:List Nat) (U:Line) (T:List Nat),l.length=r.length->fQ Y (l++U) (r++T)=fQ Y l r+fQ Y U T
 |[],[],_,_,_=>by simp[fQ]
 |[],_::_,_,_,h=>by simp at h
 |_::_,[],_,_,h=>by simp at h
 |s::l,m::r,U,T,h=>by
  simp only[rQ,fQ];rw[Jo Y l r U T (by simpa using h)]
  lia
structure Off where
 mj:Bool
 tk:List Nat
 pr:List Nat
 we:Bool
structure Path where
 marks:List Nat
 alts:List Nat
 cost:Nat
 deriving DecidableEq
abbrev dh:=Nat×List (Nat×Nat)
abbrev GM:=List (List dh)
def bQ(met g:Nat)(Y:Bool):Nat:=if Y=true then met ||| g else met
def Path.skip(p:Path):Path:=⟨0::p.marks,p.alts,p.cost⟩
def Path.take(v c:Nat)(p:Path):Path:=⟨v::p.marks,p.alts,c+p.cost⟩
def Path.alt(i c:Nat)(p:Path):Path:=⟨p.marks,i::p.alts,c+p.cost⟩
def bP(k:Nat->List Off->List Path):List Off->List (Nat×Nat)->Nat->List Path
 |[],[],met=>k met []
 |[],_::_,_=>[]
 |o::os,[],met=>k met (o::os)
 |o::os,(m,g)::r,met =>
  (if o.mj=true then(bP k os ((m,g)::r) met).map Path.skip else[]) ++
  (if o.tk.getD m 0=0 then[]else(bP k os r (bQ met g o.we)).map (Path.take (o.tk.getD m 0) (o.pr.getD m 0)))
theorem c9(k:Nat->List Off->List Path)(os:List Off)(met:Nat):bP k os [] met=k met os:=by cases os<;>rfl
def aU(all:Nat):GM->Nat->List Off->List Path
 |[],met,os=>if os.isEmpty=true/\met=all then[⟨[],[],0⟩]else[]
 |ways::gm,met,os=>ways.zipIdx.flatMap λw=>(bP (aU all gm) os w.1.2 met).map (Path.alt w.2 w.1.1)
structure Al(f:Nat->Syll->Option Nat)(price:Nat->Syll->Nat)(s:Syll)(o:Off):Prop where
 mj:o.mj=true↔s.join≠0
 we:o.we=s.ends
 no:∀m,1<=m->m<=3->(s.join=1\/f m s=none)->o.tk.getD m 0=0
 yes:∀m v,1<=m->m<=3->s.join≠1->f m s=some v->v≠0/\o.tk.getD m 0=v/\o.pr.getD m 0=price m s
def oI(g:Nat->Nat->Nat)(p:Nat):Nat->List Nat->List (Nat×Nat)
 |_,[]=>[]
 |j,m::r=>(m,g p j)::oI g p (j+1) r
def Cw(g:Nat->Nat->Nat)(p:Nat):Nat->List Nat->List Nat
 |_,[]=>[]
 |j,_::r=>g p j::Cw g p (j+1) r
theorem AG(g:Nat->Nat->Nat)(p:Nat):∀(j:Nat) (r:List Nat),(oI g p j r).map (·.1)=r
 |_,[]=>rfl
 |j,m::r=>by simp[oI,AG g p (j+1) r]
theorem OH(g:Nat->Nat->Nat)(p:Nat):∀(j:Nat) (r:List Nat),(oI g p j r).map (·.2)=Cw g p j r
 |_,[]=>rfl
 |j,m::r=>by simp[oI,Cw,OH g p (j+1) r]
theorem JP(g:Nat->Nat->Nat)(p:Nat):∀(j:Nat) (r:List Nat),(Cw g p j r).length=r.length
 |_,[]=>rfl
 |j,m::r=>by simp[Cw,JP g p (j+1) r]
theorem z7(f:Nat->Syll->Option Nat)(U:∀m s v,1<=m->1<=s.weight->f m s=some v->v≠0):∀(l:Line) (row:List Nat) (x:List Nat×Line),(∀s∈l,1<=s.weight)->(∀m∈row,1<=m)->x∈Sw66.fill f row l->
  x.1.length<=l.length/\x.2=l.drop x.1.length/\(cq l x.1).length=row.length
 |l,[],x,_,_,h=>by
  have e:x=([],l):=by
   cases l<;>simpa[Sw66.fill]using h
  subst e;simp[ye]
 |[],_::_,x,_,_,h=>by simp[Sw66.fill]at h
 |s::l,m::row,x,I,T,h=>by
  simp only[Sw66.fill,lV]at h;have Y:∀s∈l,1<=s.weight:=λs Q=>I s (cF _ Q);have O:∀m∈row,1<=m:=λs Q=>T s (cF _ Q);rcases h with h|h
  .split at h
   .simp at h
   obtain⟨y,N,rfl⟩:=bS.mp h;obtain⟨M,L,J⟩:=z7 f U l (m::row) y Y T N;refine⟨by simpa using M,by simpa using L,?_⟩
   rw[vF];exact J
  split at h
  .simp at h
  split at h
  .rename_i v H;obtain⟨y,N,rfl⟩:=bS.mp h;obtain⟨M,L,J⟩:=z7 f U l row y Y O N;refine⟨by simpa using M,by simpa using L,?_⟩
   have:=U m s v (T m df) (I s df) H;simp only[xF _ _ _ _ this,cT,J]
  simp at h
theorem Ea(f:Nat->Syll->Option Nat)(Y:Nat->Syll->Nat)(U:Syll->Off)(k:Nat->List Off->List Path):∀(l:Line) (row:List (Nat×Nat)) (met:Nat),
  (∀s∈l,Al f Y s (U s))->(∀m∈row,1<=m.1/\m.1<=3)->
  bP k (l.map U) row met=(Sw66.fill f (row.map (·.1)) l).flatMap λx=>(k (met ||| pR (row.map (·.2)) ((cq l x.1).map (·.ends))) (x.2.map U)).map λp=>⟨x.1++p.marks,p.alts,fQ Y (cq l x.1) (row.map (·.1))+p.cost⟩
 |l,[],met,_,_=>by
  have e:Sw66.fill f [] l=[([],l)]:=by cases l<;>rfl
  simp[c9,e,ye,pR,fQ]
 |[],(m,g)::row,met,_,_=>by simp[bP,Sw66.fill]
 |s::l,(m,g)::row,met,C,H=>by
  have Q:∀s∈l,Al f Y s (U s):=λs G=>C s (cF _ G);have E:∀m∈row,1<=m.1/\m.1<=3:=λs G=>H s (cF _ G);have O:=C s df;obtain⟨L,J⟩:=H (m,g) df;have N:=Ea f Y U k l ((m,g)::row) met Q H;have D:=Ea f Y U k l row (bQ met g (U s).we) Q E;simp only[bM,bP,Sw66.fill,CG];congr 1
  .by_cases T:s.join=0
   .have:¬(U s).mj=true:=λh=>(O.mj.mp h) T;rw[ae this,ag T];simp
   rw[ag (O.mj.mpr T),ae T];simp only[bM]at N;rw[N];simp only[HX,T7,cf];apply ki;intro x _;simp[vF,Path.skip]
  by_cases T:s.join=1
  .rw[ag (O.no m L J (.inl T)),ag T];simp
  rw[ae T];cases M:f m s with
  |none=>rw[ag (O.no m L J (.inr M))];simp
  |some v =>
   obtain⟨B,A,pv⟩:=O.yes m v L J T M;simp only[]at L J ⊢;rw[A,ae B,D,pv];simp only[HX,T7,cf];apply ki;intro x _;simp only[xF _ _ _ _ B,bM,pR,fQ,O.we];have e:bQ met g s.ends ||| pR (row.map (·.2)) ((cq l x.1).map (·.ends))=met ||| ((if s.ends=true then g else 0) ||| pR (row.map (·.2)) ((cq l x.1).map (·.ends))):=by
    unfold bQ;by_cases I:s.ends=true
    .rw[ag I,ag I,UR]
    rw[ae I,ae I];simp
   rw[e];apply kZ;intro p _;simp[Path.take,Bb]
def fR(g:Nat->Nat->Nat)(wc:Bool):Nat->List (List Alt)->GM
 |_,[]=>[]
 |p,ways::ps=>(ways.map λw=>((if wc=true then w.cost else 0),oI g p 0 w.row))::fR g wc (p+1) ps
def Mn(g:Nat->Nat->Nat):Nat->List (List Alt)->List Nat->List Nat
 |p,ways::ps,a::as=>Cw g p 0 (ways.getD a ⟨0,[]⟩).row++Mn g (p+1) ps as
 |_,_,_=>[]
def Aq:List (List Alt)->List Nat->List Nat
 |ways::ps,a::as=>(ways.getD a ⟨0,[]⟩).row++Aq ps as
 |_,_=>[]
def dw(wc:Bool):List (List Alt)->List Nat->Nat
 |ways::ps,a::as=>(if wc=true then(ways.getD a ⟨0,[]⟩).cost else 0)+dw wc ps as
 |_,_=>0
def gR(g:Nat->Nat->Nat)(p:Nat)(ps:List (List Alt))(l:Line)(x:Scan):Nat:=pR (Mn g p ps x.alts) ((cq l x.marks).map (·.ends))
def CD(Y:Nat->Syll->Nat)(wc:Bool)(ps:List (List Alt))(l:Line)(x:Scan):Path:=⟨x.marks,x.alts,fQ Y (cq l x.marks) (Aq ps x.alts)+dw wc ps x.alts⟩
theorem lH{α:Type}{d:α}:∀{l:List α} {n:Nat} {x:α×Nat},x∈l.zipIdx n->n<=x.2/\l.getD (x.2 - n) d=x.1/\x.2 - n<l.length
 |[],_,_,h=>by simp at h
 |a::l,n,x,h=>by
  simp only[Jk,b0]at h;rcases h with rfl|h
  .simp
  obtain⟨T,Y,U⟩:=lH (d:=d) h;have e:x.2 - n=(x.2 - (n+1))+1:=by lia
  refine⟨ao,?_,?_⟩
  .rw[e];simpa using Y
  rw[e];simpa using U
theorem BJ{α β γ:Type}(l:List α)(f:α->List β)(p:β->Bool)(h:β->γ):((l.flatMap f).filter p).map h=l.flatMap λx=>((f x).filter p).map h:=by
 induction l with
 |nil=>rfl
 |cons a l Y=>rw[kb,CF,jK,Y,kb]
theorem ux(f:Nat->Syll->Option Nat)(C:∀m s v,1<=m->1<=s.weight->f m s=some v->v≠0)(Y:Nat->Syll->Nat)(T:Syll->Off)(g:Nat->Nat->Nat)(wc:Bool)(all:Nat):∀(ps:List (List Alt)) (p:Nat) (l:Line) (met:Nat),
  (∀s∈l,Al f Y s (T s)/\1<=s.weight)->(∀ways∈ps,∀w∈ways,∀m∈w.row,1<=m/\m<=3)->
  aU all (fR g wc p ps) met (l.map T)=((Sw66.through f ps l).filter λx=>decide ((met ||| gR g p ps l x)=all)).map (CD Y wc ps l)
 |[],p,l,met,_,_=>by
  cases l with
  |nil =>
   simp only[fR,aU,Sw66.through,qC,NT];have e:∀x:Scan,gR g p [] [] x=0:=λx=>by simp[gR,Mn,pR]
   by_cases h:met=all
   .simp[h,e,CD,cq,fQ,dw]
   simp[h,e]
  |cons s l=>simp[fR,aU,Sw66.through]
 |ways::ps,p,l,met,I,B=>by
  have H:∀s∈l,Al f Y s (T s):=λs L=>(I s L).1;have u:∀s∈l,1<=s.weight:=λs L=>(I s L).2;simp only[fR,aU,Sw66.through];rw[BJ,List.zipIdx_map,T7];apply ki;intro a r;obtain⟨_,U,J⟩:=lH (d:=⟨0,[]⟩) r;simp only[NJ]at U J;have G:a.1∈ways:=by
   rw[<-U,dU,cu J];exact xJ _
  have O:∀m∈a.1.row,1<=m/\m<=3:=B ways df a.1 G;have E:∀ways∈ps,∀w∈ways,∀m∈w.row,1<=m/\m<=3:=λq h=>B q (cF _ h);simp only[Prod.map,id];rw[Ea f Y T _ l (oI g p 0 a.1.row) met H (λm Q=>by
   have:m.1∈(oI g p 0 a.1.row).map (·.1):=bS.mpr ⟨m,Q,rfl⟩;rw[AG]at this;exact O _ this)]
  rw[AG,OH,BJ,HX];apply ki;intro x o;obtain⟨n,A,z⟩:=z7 f C l a.1.row x u (λm Q=>(O m Q).1) o;have D:∀s∈x.2,Al f Y s (T s)/\1<=s.weight:=λs L=>I s (by rw[A]at L;exact NB L)
  rw[ux f C Y T g wc all ps (p+1) x.2 _ D E];rw[ra,cf,cf,cf];have N:∀ms,cq l (x.1++ms)=cq l x.1++cq x.2 ms:=λms=>by rw[E6 l x.1 ms n,A]
  have M:∀y:Scan,gR g p (ways::ps) l ⟨x.1++y.marks,a.2::y.alts⟩=pR (Cw g p 0 a.1.row) ((cq l x.1).map (·.ends)) ||| gR g (p+1) ps x.2 y:=λy=>by
   simp only[gR,Mn,U];rw[N,jK,IW _ _ _ _ (by rw[JP,bG,z])]
  have j:((Sw66.through f ps x.2).filter λy=>decide ((met ||| pR (Cw g p 0 a.1.row) ((cq l x.1).map (·.ends)) ||| gR g (p+1) ps x.2 y)=all))=(Sw66.through f ps x.2).filter ((λy=>decide ((met ||| gR g p (ways::ps) l y)=all)) ∘ λy=>⟨x.1++y.marks,a.2::y.alts⟩):=by
   congr 1;funext y;simp only[Function.comp,M,UR]
  rw[j];apply kZ;intro y _;simp only[Function.comp,Path.alt,CD,Aq,dw,U];rw[N,Jo _ _ _ _ _ (by rw[z])]
  congr 1;lia
def zK(gs:List (List Nat))(p j:Nat):Nat:=(gs.getD p []).getD j 0
def nH(gs:List (List Nat))(p j gain:Nat):List (List Nat):=gs.set p ((gs.getD p []).set j ((gs.getD p []).getD j 0 ||| gain))
def dZ(all:Nat)(c:Cut):Nat:=if c.must=true then all+1 else 16
def lP(all:Nat)(c:Cut):Nat:=if c.must=true then all+(all+1)else all
def fV(gain:Nat)(gs:List (List Nat))(Y:List (Nat×Nat)):List (List Nat):=Y.foldl (λgs s=>nH gs s.1 (s.2 - 1) gain) gs
def hU(st:Nat×List (List Nat))(c:Cut):Nat×List (List Nat):=(lP st.1 c,fV (dZ st.1 c) st.2 c.spots)
def iE(M:Metre):Nat×List (List Nat):=(0,M.places.map λ_=>[0,0,0,0])
def cutsOf(M:Metre):Nat×List (List Nat):=M.cuts.foldl hU (iE M)
def Shape(n:Nat)(gs:List (List Nat)):Prop:=gs.length=n/\∀r∈gs,r.length=4
theorem Shape.nH{n p j gain:Nat}{gs:List (List Nat)}(h:Shape n gs):Shape n (nH gs p j gain):=by
 refine⟨by simp[VM.nH,h.1],λr hr=>?_⟩
 by_cases U:p<gs.length
 .rcases List.mem_or_eq_of_mem_set hr with Y|Y
  .exact h.2 r Y
  rw[Y,HC,dU,cu U];exact h.2 _ (xJ U)
 rw[VM.nH,List.set_eq_of_length_le ao]at hr;exact h.2 r hr
theorem XU{n p j gain U j':Nat}{gs:List (List Nat)}(h:Shape n gs)(O:p<n)(N:j<4):zK (nH gs p j gain) U j'=if U=p/\j'=j then zK gs p j ||| gain else zK gs U j':=by
 have Y:p<gs.length:=by rw[h.1];exact O
 have M:(gs[p]).length=4:=h.2 _ (xJ Y);unfold zK nH;simp only[dU,cu Y,uC];by_cases T:U=p
 .subst T;rw[Bs Y,uC];by_cases Q:j'=j
  .subst Q;rw[Bs ao,ag ⟨rfl,rfl⟩,uC]
  rw[G5 (λq=>Q q.symm),ae (λq=>Q q.2),cu Y,uC]
 rw[G5 (λq=>T q.symm),ae (λq=>T q.1)]
def ES(n:Nat)(Y:List (Nat×Nat)):Prop:=∀s∈Y,s.1<n/\1<=s.2/\s.2<=4
theorem uA{n gain:Nat}:∀(Y:List (Nat×Nat)) {gs:List (List Nat)},Shape n gs->Shape n (fV gain gs Y)
 |[],_,h=>h
 |s::r,_,h=>uA r (h.nH)
theorem yg{n gain:Nat}(b p j:Nat):∀(Y:List (Nat×Nat)) {gs:List (List Nat)},Shape n gs->ES n Y->
  (zK (fV gain gs Y) p j).testBit b=((zK gs p j).testBit b||(gain.testBit b&&Y.contains (p,j+1)))
 |[],gs,h,_=>by simp[fV]
 |s::r,gs,h,T=>by
  obtain⟨Q,M,L⟩:=T s df;have O:=yg (gain:=gain) b p j r (gs:=nH gs s.1 (s.2 - 1) gain) h.nH λx N=>T x (cF _ N);show(zK (fV gain (nH gs s.1 (s.2 - 1) gain) r) p j).testBit b=_;rw[O,XU h Q ao];rw[yD];by_cases e:p=s.1/\j=s.2 - 1
  .rw[ag e];have U:(p,j+1)=s:=by
    obtain⟨a,c⟩:=s;simp only[gD]at *;lia
   rw[U,EW,Te,<-e.1,<-e.2];cases(zK gs p j).testBit b<;>cases gain.testBit b<;>simp
  rw[ae e];have U:((p,j+1)==s)=false:=by
   apply JK;intro q;apply e;rw[<-q];simp
  rw[U,Np]
def bits:Nat->List Cut->List Nat
 |_,[]=>[]
 |k,c::Y=>if c.must=true then k::bits (k+1) Y else 4::bits k Y
def fP:List Cut->Nat
 |[]=>0
 |c::Y=>(if c.must=true then 1 else 0)+fP Y
theorem DC{n:Nat}:∀(Y:List Cut) (k:Nat) {gs:List (List Nat)},Shape n gs->(∀c∈Y,ES n c.spots)->
  (Y.foldl hU (2 ^ k - 1,gs)).1=2 ^ (k+fP Y) - 1/\Shape n (Y.foldl hU (2 ^ k - 1,gs)).2/\
  ∀p j b,(zK (Y.foldl hU (2 ^ k - 1,gs)).2 p j).testBit b=((zK gs p j).testBit b||(Y.zip (bits k Y)).any λc=>(c.2==b)&&c.1.spots.contains (p,j+1))
 |[],k,gs,h,_=>by simp[fP,bits,h]
 |c::Y,k,gs,h,L=>by
  have H:0<2 ^ k:=Nat.two_pow_pos k;have J:=L c df;have T:∀c∈Y,ES n c.spots:=λx I=>L x (cF _ I);rw[ng];by_cases U:c.must=true
  .have Q:hU (2 ^ k - 1,gs) c=(2 ^ (k+1) - 1,fV (2 ^ k) gs c.spots):=by
    unfold hU lP dZ;simp only[ag U];rw[show 2 ^ k - 1+1=2 ^ k by lia]
    congr 1;rw[yp];lia
   rw[Q];obtain⟨O,N,M⟩:=DC Y (k+1) (uA (gain:=2 ^ k) c.spots h) T;refine⟨?_,N,λp j b=>?_⟩
   .rw[O];simp only[fP,ag U];rw[show k+1+fP Y=k+(1+fP Y)by lia]
   rw[M,yg b p j _ h J,ZG];simp only[bits,ag U,rG,vk,Bool.or_assoc];congr 1
  have Q:hU (2 ^ k - 1,gs) c=(2 ^ k - 1,fV 16 gs c.spots):=by
   unfold hU lP dZ;simp only[ae U]
  rw[Q];obtain⟨O,N,M⟩:=DC Y k (uA (gain:=16) c.spots h) T;refine⟨?_,N,λp j b=>?_⟩
  .rw[O];simp only[fP,ae U,wL]
  rw[M,yg b p j _ h J,show(16:Nat)=2 ^ 4 by rfl,ZG]
  simp only[bits,ae U,rG,vk,Bool.or_assoc];congr 1
def yw:Nat->List Nat->List (Nat×Nat)
 |_,[]=>[]
 |p,n::Y=>(List.range n).map (λj=>(p,j))++yw (p+1) Y
theorem Gh:∀(Q:List Nat) (Y i p j:Nat),(yw Y Q)[i]?=some (p,j)↔(Y<=p/\∃n,Q[p - Y]?=some n/\j<n/\i=(Q.take (p - Y)).sum+j)
 |[],Y,i,p,j=>by simp[yw]
 |n::Q,Y,i,p,j=>by
  simp only[yw];by_cases O:i<n
  .rw[uq (by simpa using O)]
   simp only[cM,NG O,iL,gY,gD];constructor
   .rintro⟨rfl,rfl⟩;exact⟨bD _,n,by simp,O,by simp⟩
   rintro⟨M,m,U,N,T⟩;by_cases e:p=Y
   .subst e;simp at U T;exact⟨rfl,T⟩
   obtain⟨d,rfl⟩:∃d,p=Y+1+d:=⟨p - Y - 1,ao⟩;rw[show Y+1+d - Y=d+1 by lia,Nb,js]at T
   lia
  rw[oC (by simpa using O)]
  rw[bG,Ec,Gh Q (Y+1) (i - n) p j];constructor
  .rintro⟨M,m,U,N,T⟩;obtain⟨d,rfl⟩:∃d,p=Y+1+d:=⟨p - (Y+1),ao⟩;rw[show Y+1+d - (Y+1)=d by lia]at U T
   refine⟨ao,m,?_,N,?_⟩
   .rw[show Y+1+d - Y=d+1 by lia,Kp];exact U
   rw[show Y+1+d - Y=d+1 by lia,Nb,js];lia
  rintro⟨M,m,U,N,T⟩;by_cases e:p=Y
  .subst e;simp at U T;lia
  obtain⟨d,rfl⟩:∃d,p=Y+1+d:=⟨p - Y - 1,ao⟩;rw[show Y+1+d - Y=d+1 by lia]at U T
  rw[Kp]at U;rw[Nb,js]at T;refine⟨ao,m,?_,N,?_⟩
  .rw[show Y+1+d - (Y+1)=d by lia];exact U
  rw[show Y+1+d - (Y+1)=d by lia];lia
theorem Sz(b:Nat):∀(gs:List Nat) (Y:List Bool),(pR gs Y).testBit b=true↔∃(i g:Nat),gs[i]?=some g/\Y[i]?=some true/\g.testBit b=true
 |[],Y=>by simp[pR]
 |g::gs,[]=>by simp[pR]
 |g::gs,e::Y=>by
  simp only[pR,Te,CA];rw[Sz b gs Y];constructor
  .rintro(h|⟨i,g',U,T,Q⟩)
   .cases e with
    |true=>exact⟨0,g,by simp,by simp,by simpa using h⟩
    |false=>simp at h
   exact⟨i+1,g',by simpa using U,by simpa using T,Q⟩
  rintro⟨i,g',U,T,Q⟩;cases i with
  |zero =>
   simp at U T;subst U T;left;simpa using Q
  |succ i=>exact .inr ⟨i,g',by simpa using U,by simpa using T,Q⟩
theorem V6(g:Nat->Nat->Nat)(p:Nat):∀(r:List Nat) (j:Nat),Cw g p j r=(List.range r.length).map λi=>g p (j+i)
 |[],_=>by simp[Cw]
 |m::r,j=>by
  simp only[Cw,cT,NM,bM,cf,C7];rw[V6 g p r (j+1)];congr 1;apply kZ;intro i _;simp only[Function.comp];rw[show j+1+i=j+i.succ by lia]
def uU(ps:List (List Alt))(as:List Nat):List Alt:=(ps.zip as).map λp=>p.1.getD p.2 ⟨0,[]⟩
theorem Wa(g:Nat->Nat->Nat):∀(ps:List (List Alt)) (p:Nat) (as:List Nat),Mn g p ps as=(yw p ((uU ps as).map λa=>a.row.length)).map λx=>g x.1 x.2
 |[],p,as=>by cases as<;>simp[Mn,uU,yw]
 |ways::ps,p,[]=>by simp[Mn,uU,yw]
 |ways::ps,p,a::as=>by
  simp only[Mn,uU,rG,bM,yw,jK,cf];rw[Wa g ps (p+1) as,V6];simp[uU,Function.comp]
theorem Ym(l:List Alt):∀n,l.foldl (λn a=>n+a.row.length) n=n+(l.map λa=>a.row.length).sum:=by
 induction l with
 |nil=>simp
 |cons a l Y=>intro n;rw[ng,Y];simp;lia
theorem L6(M:Metre)(l:Line)(x:Scan)(p s:Nat)(I:1<=s):Sw66.endAt M l x (p,s)=true↔
  ∃i:Nat,(yw 0 ((uU M.places x.alts).map λa=>a.row.length))[i]?=some (p,s - 1)/\((cq l x.marks).map (·.ends))[i]?=some true:=by
 have e0:Sw66.rowsOf M x=uU M.places x.alts:=rfl;have L:Sw66.endsOf l x=(cq l x.marks).map (·.ends):=by simp[Sw66.endsOf,cq,cf]
 unfold Sw66.endAt;simp only[e0,L,Ym,gN,dI,wL];generalize uU M.places x.alts=Y;generalize (cq l x.marks).map (·.ends)=Q;have J:∀i:Nat,Q.getD i false=true↔Q[i]?=some true:=λi=>by
  rw[dU];cases Q[i]?<;>simp
 rw[J];constructor
 .rintro⟨T,O⟩;cases hr:Y[p]? with
  |none=>rw[hr]at T;simp at T;lia
  |some a =>
   rw[hr]at T;simp at T;refine⟨_,(Gh _ 0 _ p (s - 1)).mpr ⟨dy _,a.row.length,?_,ao,rfl⟩,?_⟩
   .simp[hr]
   rw[<-O];congr 1;rw[NJ,<-SS];lia
 rintro⟨i,T,O⟩;obtain⟨_,n,U,H,N⟩:=(Gh _ 0 _ p (s - 1)).mp T;rw[NJ]at U N;rw[cM]at U;cases hr:Y[p]? with
 |none=>rw[hr]at U;simp at U
 |some a =>
  rw[hr]at U;simp at U;subst U;refine⟨by simp;lia,?_⟩
  rw[<-O,N];congr 1;rw[<-SS];lia
theorem o6:∀(Y:List Cut) (k b:Nat) (c:Cut),(c,b)∈Y.zip (bits k Y)->(c.must=true->k<=b/\b<k+fP Y)/\(c.must=false->b=4)
 |[],_,_,_,h=>by simp[bits]at h
 |d::Y,k,b,c,h=>by
  by_cases U:d.must=true
  .simp only[bits,ag U,rG,b0,gD]at h;simp only[fP,ag U];rcases h with⟨rfl,rfl⟩|h
   .exact⟨λ_=>ao,λq=>by rw[U]at q;cases q⟩
   obtain⟨T,Q⟩:=o6 Y (k+1) b c h;exact⟨λq=>by have:=T q;lia,Q⟩
  simp only[bits,ae U,rG,b0,gD]at h;simp only[fP,ae U];rcases h with⟨rfl,rfl⟩|h
  .exact⟨λq=>absurd q U,λ_=>rfl⟩
  obtain⟨T,Q⟩:=o6 Y k b c h;exact⟨λq=>by have:=T q;lia,Q⟩
theorem GX:∀(Y:List Cut) (k:Nat) (c:Cut),c∈Y->∃b,(c,b)∈Y.zip (bits k Y)
 |d::Y,k,c,h=>by
  by_cases T:d.must=true
  .simp only[bits,ag T,rG,b0,gD];rcases b0.mp h with rfl|h
   .exact⟨k,.inl ⟨rfl,rfl⟩⟩
   obtain⟨b,U⟩:=GX Y (k+1) c h;exact⟨b,.inr U⟩
  simp only[bits,ae T,rG,b0,gD];rcases b0.mp h with rfl|h
  .exact⟨4,.inl ⟨rfl,rfl⟩⟩
  obtain⟨b,U⟩:=GX Y k c h;exact⟨b,.inr U⟩
theorem As:∀(Y:List Cut) (k b:Nat),k+fP Y<=4->k<=b->b<k+fP Y->∃c,c.must=true/\(c,b)∈Y.zip (bits k Y)/\∀d,(d,b)∈Y.zip (bits k Y)->d=c
 |[],k,b,_,N,Q=>by simp[fP]at Q;lia
 |d::Y,k,b,M,N,Q=>by
  by_cases T:d.must=true
  .simp only[fP,ag T]at Q M;simp only[bits,ag T,rG,b0,gD];by_cases e:b=k
   .subst e;refine⟨d,T,.inl ⟨rfl,rfl⟩,?_⟩;rintro x (⟨q,_⟩|q)
    .exact q
    have:=o6 Y (b+1) b x q;cases L:x.must with
    |true=>have:=this.1 L;lia
    |false=>have:=this.2 L;lia
   obtain⟨c,O,U,un⟩:=As Y (k+1) b ao ao ao;refine⟨c,O,.inr U,?_⟩;rintro x (⟨_,q⟩|q)
   .exact absurd q e
   exact un x q
  simp only[fP,ae T]at Q M;simp only[bits,ae T,rG,b0,gD];obtain⟨c,O,U,un⟩:=As Y k b ao N ao;refine⟨c,O,.inr U,?_⟩;rintro x (⟨_,q⟩|q)
  .lia
  exact un x q
theorem Gd:∀Y:List Cut,fP Y<=Y.length
 |[]=>by simp[fP]
 |c::Y=>by have:=Gd Y;simp only[fP,cT];split<;>lia
structure fz(M:Metre):Prop where
 p1:1<=M.places.length
 p8:M.places.length<=8
 ways:∀ws∈M.places,1<=ws.length/\ws.length<=3
 alt:∀ws∈M.places,∀w∈ws,w.cost<=100/\w.row.length<=4/\∀m∈w.row,1<=m/\m<=3
 c4:M.cuts.length<=4
 c6:∀c∈M.cuts,c.spots.length<=6
 spots:∀c∈M.cuts,ES M.places.length c.spots
theorem fz.of{M:Metre}(h:M.ok=true):fz M:=by
 unfold Metre.ok at h;unfold Sw66.altOk Sw66.PLACES Sw66.ALTS Sw66.CUTS Sw66.ROW at h;simp only[gN,jV]at h;simp only[dI]at h;obtain⟨L,J,O,I,N⟩:=h;refine⟨L,J,λY U=>?_,λY U w T=>?_,I,λc Q=>(N c Q).1,λc Q s H=>?_⟩
 .obtain⟨a,b,_⟩:=O Y U;refine⟨?_,b⟩;cases Y with
  |nil=>simp at a
  |cons=>simp
 .obtain⟨_,_,c⟩:=O Y U;obtain⟨G,E,D⟩:=c w T;exact⟨G,E,λm C=>by have:=D m C;exact this⟩
 obtain⟨a,b,c⟩:=(N c Q).2 s H;exact⟨a,b,c⟩
def gF(M:Metre)(p j:Nat):Nat:=zK (cutsOf M).2 p j
theorem o4{M:Metre}(h:fz M):(cutsOf M).1=2 ^ fP M.cuts - 1/\Shape M.places.length (cutsOf M).2/\∀p j b,(gF M p j).testBit b=((M.cuts.zip (bits 0 M.cuts)).any λc=>(c.2==b)&&c.1.spots.contains (p,j+1)):=by
 have Y:Shape M.places.length (iE M).2:=⟨by simp[iE],λr hr=>by simp[iE]at hr;obtain⟨_,rfl⟩:=hr;rfl⟩
 have:=DC M.cuts 0 (gs:=(iE M).2) Y h.spots;have e:cutsOf M=M.cuts.foldl hU (2 ^ 0 - 1,(iE M).2):=rfl;rw[<-e]at this;obtain⟨a,b,c⟩:=this;refine⟨by simpa using a,b,λp j b=>?_⟩
 unfold gF;rw[c];have z:zK (iE M).2 p j=0:=by
  unfold zK iE;simp only[dU,cM];cases M.places[p]? with
  |none=>simp
  |some w =>
   simp only[iL,uC]
   match j with
   |0=>rfl
   |1=>rfl
   |2=>rfl
   |3=>rfl
   |j+4=>rfl
 rw[z];simp
theorem HH{M:Metre}(h:fz M):(cutsOf M).1<=15:=by
 have Y:=(o4 h).1;have U:=Gd M.cuts;have T:=h.c4;have Q:2 ^ fP M.cuts<=2 ^ 4:=yx ao ao;lia
theorem Qv{M:Metre}(h:fz M)(l:Line)(x:Scan):M.cuts.all (Sw66.cutOk M l x)=true↔gR (gF M) 0 M.places l x=(cutsOf M).1:=by
 obtain⟨n,_,v⟩:=o4 h;have hk:fP M.cuts<=4:=bT (Gd _) h.c4;have T:∀b,(gR (gF M) 0 M.places l x).testBit b=true↔∃c,(c,b)∈M.cuts.zip (bits 0 M.cuts)/\c.spots.any (Sw66.endAt M l x)=true:=by
  intro b;unfold gR;rw[Sz,Wa];constructor
  .rintro⟨i,g,Q,m,u⟩;rw[cM]at Q;cases G:(yw 0 ((uU M.places x.alts).map λa=>a.row.length))[i]? with
   |none=>rw[G]at Q;simp at Q
   |some H =>
    rw[G]at Q;simp only[iL,gY]at Q;subst Q;rw[v,xC]at u;obtain⟨⟨c,b'⟩,U,N⟩:=u;simp only[gN,lK]at N;obtain⟨rfl,E⟩:=N;refine⟨c,U,xC.mpr ⟨(H.1,H.2+1),by simpa using E,?_⟩⟩
    exact(L6 M l x H.1 (H.2+1) ao).mpr ⟨i,by simpa using G,m⟩
  rintro⟨c,U,j⟩;obtain⟨⟨p,s⟩,L,D⟩:=xC.mp j;have J:c∈M.cuts:=(ED U).1;obtain⟨_,r,_⟩:=h.spots c J (p,s) L;obtain⟨i,C,B⟩:=(L6 M l x p s r).mp D;refine⟨i,gF M p (s - 1),by rw[cM,C];rfl,B,?_⟩
  rw[v,xC];refine⟨(c,b),U,?_⟩;simp only[EW,IX];rw[show s - 1+1=s from by simp only[]at r;lia]
  simpa using L
 rw[n];constructor
 .intro U;rw[jV]at U;apply T9;intro b;rw[Pu];by_cases O:b<fP M.cuts
  .rw[wQ O];obtain⟨c,f,Y,_⟩:=As M.cuts 0 b ao (dy _) ao;refine(T b).mpr ⟨c,Y,?_⟩;have:=U c (ED Y).1;unfold Sw66.cutOk at this;rw[ag f]at this;exact this
  rw[jF O];cases A:(gR (gF M) 0 M.places l x).testBit b with
  |false=>rfl
  |true =>
   obtain⟨c,Y,e⟩:=(T b).mp A;obtain⟨z,q⟩:=o6 M.cuts 0 b c Y;cases I:c.must with
   |true=>have:=z I;lia
   |false =>
    have:=U c (ED Y).1;unfold Sw66.cutOk at this;rw[I,ae aP,e]at this;simp at this
 intro o;rw[jV];intro c U;obtain⟨b,O⟩:=GX M.cuts 0 c U;obtain⟨z,q⟩:=o6 M.cuts 0 b c O;unfold Sw66.cutOk;cases I:c.must with
 |true =>
  rw[ag rfl];have ab:=z I;have:(gR (gF M) 0 M.places l x).testBit b=true:=by
   rw[o,Pu];exact wQ ao
  obtain⟨d,y,de⟩:=(T b).mp this;obtain⟨c0,_,_,un⟩:=As M.cuts 0 b ao (dy _) ao;rw[un c O,<-un d y];exact de
 |false =>
  rw[ae aP];have e4:=q I;subst e4;cases A:c.spots.any (Sw66.endAt M l x)with
  |false=>rfl
  |true =>
   have:(gR (gF M) 0 M.places l x).testBit 4=true:=(T 4).mpr ⟨c,O,A⟩;rw[o,Pu]at this;have:=of_decide_eq_true this;lia
end VM
namespace VM
section
abbrev TC:=Option (Nat×Nat)
def ck:TC->TC->TC
 |none,b=>b
 |some a,none=>some a
 |some a,some b=>if b.1<a.1 then some b else if b.1=a.1 then some (b.1,a.2+b.2)else some a
def iI(c:Nat):TC->TC
 |none=>none
 |some a=>some (a.1+c,a.2)
def dA:TC->TC->TC
 |some a,some b=>some (a.1+b.1,a.2*b.2)
 |_,_=>none
theorem di(a:TC):ck a none=a:=by cases a<;>rfl
theorem Wo(a:TC):ck none a=a:=rfl
theorem La(a b:TC):ck a b=ck b a:=by
 cases a with
 |none=>rw[di];rfl
 |some a =>
  cases b with
  |none=>rfl
  |some b =>
   obtain⟨Y,O⟩:=a;obtain⟨U,N⟩:=b;simp only[ck];by_cases T:U<Y
   .rw[ag T,ae ao,ae ao]
   rw[ae T];by_cases Q:U=Y
   .subst Q;rw[ag rfl,ae ao,ag rfl,zU]
   rw[ae Q,ag ao]
theorem i8(a b c:TC):ck (ck a b) c=ck a (ck b c):=by
 cases a with
 |none=>rfl
 |some a =>
  cases b with
  |none=>rfl
  |some b =>
   cases c with
   |none=>rw[di,di]
   |some c =>
    obtain⟨Y,M⟩:=a;obtain⟨U,L⟩:=b;obtain⟨T,J⟩:=c;simp only[ck];rcases US U Y with Q|Q|Q<;>rcases US T U with O|O|O<;>rcases US T Y with N|N|N <;>
     first
     |(exfalso;lia)
     |(simp[*,uo,Nat.not_lt_of_lt,Aw,fZ,Bb,ck]<;>first|lia|(split<;>simp_all<;>lia)|skip)
theorem sV(a:TC):dA a none=none:=by cases a<;>rfl
theorem Ct(a b:TC):dA a b=dA b a:=by
 cases a<;>cases b<;>simp[dA,zU,xD]
theorem G9(a b c:TC):dA a (ck b c)=ck (dA a b) (dA a c):=by
 cases a with
 |none=>rfl
 |some a =>
  cases b with
  |none=>rfl
  |some b =>
   cases c with
   |none=>simp[ck,dA]
   |some c =>
    obtain⟨Y,N⟩:=a;obtain⟨U,M⟩:=b;obtain⟨T,L⟩:=c;simp only[ck,dA];by_cases Q:T<U
    .rw[ag Q,ag ao]
    rw[ae Q,ae (show ¬Y+T<Y+U by lia)]
    by_cases O:T=U
    .rw[ag O,ag (show Y+T=Y+U by lia)];simp[NH]
    rw[ae O,ae (show ¬Y+T=Y+U by lia)]
theorem XA(a b c:TC):dA (ck a b) c=ck (dA a c) (dA b c):=by rw[Ct,G9,Ct c a,Ct c b]
theorem RS(c:Nat)(t:TC):iI c t=dA (some (c,1)) t:=by cases t<;>simp[iI,dA,zU]
theorem Z3(c:Nat)(a b:TC):iI c (ck a b)=ck (iI c a) (iI c b):=by simp only[RS,G9]
theorem WX(t:TC):iI 0 t=t:=by cases t<;>simp[iI]
theorem Yi(c:Nat)(a b:TC):iI c (dA a b)=dA a (iI c b):=by
 cases a<;>cases b<;>simp[iI,dA,Bb]
theorem Xf(c:Nat)(a b:TC):dA (iI c a) b=iI c (dA a b):=by
 cases a<;>cases b<;>simp[iI,dA];lia
def e8:List TC->TC
 |[]=>none
 |a::l=>ck a (e8 l)
theorem FU:∀a b:List TC,e8 (a++b)=ck (e8 a) (e8 b)
 |[],_=>rfl
 |x::a,b=>by simp only[rQ,e8];rw[FU a b,i8]
def eS:List Nat->TC
 |[]=>none
 |c::l=>ck (some (c,1)) (eS l)
theorem E8:∀a b:List Nat,eS (a++b)=ck (eS a) (eS b)
 |[],_=>rfl
 |x::a,b=>by simp only[rQ,eS];rw[E8 a b,i8]
theorem uX(c:Nat):∀l:List Nat,eS (l.map λx=>c+x)=iI c (eS l)
 |[]=>rfl
 |x::l=>by
  simp only[bM,eS];rw[uX c l,Z3];simp[iI,zU]
theorem o9{l:List Nat}:eS l=none↔l=[]:=by
 cases l with
 |nil=>simp[eS]
 |cons c l =>
  simp only[eS,reduceCtorEq,iff_false];cases eS l with
  |none=>simp[ck]
  |some a=>simp only[ck];split<;>(try split)<;>simp
theorem jk:∀{l:List Nat} {a:Nat×Nat},eS l=some a->a.1∈l/\(∀x∈l,a.1<=x)/\a.2=l.count a.1
 |[],_,h=>by simp[eS]at h
 |c::l,a,h=>by
  simp only[eS]at h;cases U:eS l with
  |none =>
   rw[U]at h;have N:=o9.mp U;subst N;simp[ck]at h;subst h;simp
  |some b =>
   rw[U]at h;obtain⟨M,T,L⟩:=jk U;simp only[ck]at h;by_cases O:b.1<c
   .rw[ag O]at h;cases h;refine⟨cF _ M,λx Y=>?_,?_⟩
    .rcases b0.mp Y with rfl|Y
     .lia
     exact T x Y
    rw[List.count_cons_of_ne ao];exact L
   rw[ae O]at h;by_cases Q:b.1=c
   .rw[ag Q]at h;cases h;subst Q;refine⟨df,λx Y=>?_,?_⟩
    .rcases b0.mp Y with rfl|Y
     .exact bD _
     exact T x Y
    simp only[YG];lia
   rw[ae Q]at h;cases h;refine⟨df,λx Y=>?_,?_⟩
   .rcases b0.mp Y with rfl|Y
    .exact bD _
    have:=T x Y;simp only[];lia
   simp only[YG];have:l.count c=0:=Zq.mpr λJ=>by have:=T c J;lia
   lia
def fB(Y:Nat):TC->Nat
 |none=>0
 |some a=>if a.1=Y then a.2 else 0
theorem Ju{c0:Nat}{l:List Nat}(h:∀x∈l,c0<=x):fB c0 (eS l)=l.count c0:=by
 cases Y:eS l with
 |none=>rw[o9.mp Y];simp[fB]
 |some a =>
  obtain⟨U,T,Q⟩:=jk Y;unfold fB;simp only[];by_cases e:a.1=c0
  .rw[ag e,Q,e]
  rw[ae e];symm;apply Zq.mpr;intro O;have:=T c0 O;have:=h _ U;lia
def S(ps:List Path):TC:=eS (ps.map (·.cost))
theorem Aa(a b:List Path):S (a++b)=ck (S a) (S b):=by simp only[S,jK,E8]
theorem Zb:S []=none:=rfl
theorem V4(a:List Path):S (a.map Path.skip)=S a:=by simp only[S,cf];rfl
theorem VE(v c:Nat)(a:List Path):S (a.map (Path.take v c))=iI c (S a):=by
 simp only[S,cf];rw[<-uX,cf];rfl
theorem acg(v c:Nat)(a:List Path):S (a.map (Path.alt v c))=iI c (S a):=by
 simp only[S,cf];rw[<-uX,cf];rfl
theorem Ll{α:Type}(f:α->List Path):∀l:List α,S (l.flatMap f)=e8 (l.map λx=>S (f x))
 |[]=>rfl
 |a::l=>by rw[kb,Aa,Ll f l];rfl
theorem RV(met g:Nat)(we:Bool):met<=bQ met g we:=by
 unfold bQ;split
 .exact Nat.left_le_or
 exact bD _
theorem mK(k:Nat->List Off->List Path)(all:Nat)(Y:∀met os,all<met->k met os=[]):∀(os:List Off) (row:List (Nat×Nat)) (met:Nat),all<met->bP k os row met=[]
 |os,[],met,h=>by rw[c9];exact Y met os h
 |[],_::_,_,_=>rfl
 |o::os,(m,g)::r,met,h=>by
  simp only[bP];rw[mK k all Y os ((m,g)::r) met h,mK k all Y os r _ (eE h (RV _ _ _))];simp
theorem r8(all:Nat):∀(gm:GM) (met:Nat) (os:List Off),all<met->aU all gm met os=[]
 |[],met,os,h=>by simp only[aU];rw[ae ao]
 |ways::gm,met,os,h=>by
  simp only[aU];rw[List.flatMap_eq_nil_iff];intro w _;rw[mK _ all (r8 all gm) os _ met h];rfl
def EN(all:Nat)(row:List (Nat×Nat))(rest:GM)(os:List Off)(met:Nat):TC:=S (bP (aU all rest) os row met)
theorem Q4(all met:Nat):EN all [] [] [] met=if met=all then some (0,1)else none:=by
 simp only[EN,bP,aU,NT,true_and];split<;>rfl
theorem ON(all met:Nat)(o:Off)(os:List Off):EN all [] [] (o::os) met=none:=by
 simp[EN,bP,aU,S,eS]
theorem Q8(all met:Nat)(m:Nat×Nat)(r:List (Nat×Nat))(rest:GM):EN all (m::r) rest [] met=none:=by
 simp[EN,bP,S,eS]
theorem aal(all met m g:Nat)(r:List (Nat×Nat))(rest:GM)(o:Off)(os:List Off):EN all ((m,g)::r) rest (o::os) met =
  ck (if o.mj=true then EN all ((m,g)::r) rest os met else none) (if o.tk.getD m 0=0 then none else iI (o.pr.getD m 0) (EN all r rest os (bQ met g o.we))):=by
 simp only[EN,bP,Aa];congr 1
 .split
  .rw[V4]
  rfl
 split
 .rfl
 rw[VE]
section
variable{κ:Type}[DecidableEq κ]
abbrev DL(κ:Type):=List (κ×(Nat×Nat))
def look(k:κ):DL κ->TC
 |[]=>none
 |(Y,v)::r=>if Y=k then some v else look k r
def dY(k:κ)(c n:Nat):DL κ->DL κ
 |[]=>[(k,(c,n))]
 |(Y,v)::r=>if Y=k then(Y,if c<v.1 then(c,n)else if c=v.1 then(c,v.2+n)else v)::r else(Y,v)::dY k c n r
theorem Cp(k Y:κ)(c n:Nat):∀d:DL κ,look Y (dY k c n d)=if Y=k then ck (look k d) (some (c,n))else look Y d
 |[]=>by
  simp only[dY,look];by_cases h:k=Y
  .subst h;simp[ck]
  rw[ae h,ae (λq=>h q.symm)]
 |(j,v)::r=>by
  simp only[dY];by_cases U:j=k
  .subst U;simp only[dB,look];by_cases h:j=Y
   .subst h;simp only[dB,ck];split<;>(try split)<;>simp_all
   rw[ae h,ae (λq=>h q.symm),ae h]
  rw[ae U];simp only[look,ae U];by_cases h:j=Y
  .subst h;rw[ag rfl,ae U,ag rfl]
  rw[ae h,ae h,Cp k Y c n r]
theorem Dt(k:κ)(c n:Nat):∀d:DL κ,(dY k c n d).map (·.1)=if k∈d.map (·.1)then d.map (·.1)else d.map (·.1)++[k]
 |[]=>by simp[dY]
 |(j,v)::r=>by
  simp only[dY];by_cases Y:j=k
  .subst Y;simp
  rw[ae Y];simp only[bM];rw[Dt k c n r];have:(k∈j::r.map (·.1))↔k∈r.map (·.1):=by
   rw[b0];exact⟨λq=>q.resolve_left λe=>Y e.symm,.inr⟩
  by_cases h:k∈r.map (·.1)
  .rw[ag h,ag (this.mpr h)]
  rw[ae h,ae (λq=>h (this.mp q))];rfl
theorem uT{k:κ}{c n:Nat}{d:DL κ}(h:(d.map (·.1)).Nodup):((dY k c n d).map (·.1)).Nodup:=by
 rw[Dt];split
 .exact h
 rename_i q;rw[Hw];refine⟨h,by simp,λa U b Y=>?_⟩
 simp at Y;subst Y;intro e;subst e;exact q U
theorem xp{k:κ}:∀{d:DL κ},look k d=none↔k∉d.map (·.1)
 |[]=>by simp[look]
 |(j,v)::r=>by
  simp only[look,bM,b0,not_or];by_cases h:j=k
  .subst h;simp
  rw[ae h,xp (d:=r)];exact⟨λq=>⟨λe=>h e.symm,q⟩,λq=>q.2⟩
def ip(c:Nat)(t d:DL κ):DL κ:=t.foldl (λd e=>dY e.1 (e.2.1+c) e.2.2 d) d
theorem FP(c:Nat)(k:κ):∀(t d:DL κ),(t.map (·.1)).Nodup->look k (ip c t d)=ck (look k d) (iI c (look k t))
 |[],d,_=>by simp[ip,look,iI,di]
 |(j,v)::t,d,h=>by
  simp only[bM,qD]at h;show look k (ip c t (dY j (v.1+c) v.2 d))=_;rw[FP c k t _ h.2,Cp];simp only[look];by_cases e:k=j
  .subst e;rw[ag rfl,ag rfl,xp.mpr h.1];simp[iI,di]
  rw[ae e,ae (λq=>e q.symm)]
end
end
section
structure jo where
 goal:Nat
 all:Nat
 steps:List (Nat×Nat×Nat)
 wU:List (List (Nat×Nat))
abbrev Pos:=List (List (Nat×Nat)×GM)
def bL(gm:GM)(Y:Pos)(n:Nat):Option (List (Nat×Nat)×GM):=if n<=gm.length then some ([],gm.drop n)else Y[n - gm.length - 1]?
structure pZ(gm:GM)(t:jo)(pos:Pos):Prop where
 goal:t.goal=gm.length
 len:t.steps.length=pos.length
 step:∀(q m g a:Nat),t.steps[q]?=some (m,g,a)->∃r rest,pos[q]?=some ((m,g)::r,rest)/\bL gm pos a=some (r,rest)
 abA:t.wU.length=gm.length
 fork:∀(p:Nat) (ways:List dh),gm[p]?=some ways->∃bs,t.wU[p]?=some bs/\bs.length=ways.length/\∀(i:Nat) (w:dh),ways[i]?=some w->∃nd,bs[i]?=some (w.1,nd)/\bL gm pos nd=some (w.2,gm.drop (p+1))/\p<nd
def cU(Y:Nat):Nat->List (Nat×Nat)->List (Nat×Nat×Nat)
 |_,[]=>[]
 |n,(m,g)::r=>(m,g,if r.isEmpty=true then Y else n+1)::cU Y (n+1) r
def uc(rest:GM):List (Nat×Nat)->Pos
 |[]=>[]
 |m::r=>(m::r,rest)::uc rest r
theorem i7(Y:Nat):∀(r:List (Nat×Nat)) (n:Nat),(cU Y n r).length=r.length
 |[],_=>rfl
 |m::r,n=>by simp[cU,i7 Y r (n+1)]
theorem Fd(rest:GM):∀r,(uc rest r).length=r.length
 |[]=>rfl
 |m::r=>by simp[uc,Fd rest r]
def cG(Y U:Nat):List dh->List (Nat×Nat×Nat)->List (Nat×Nat)×List (Nat×Nat×Nat)
 |[],st=>([],st)
 |w::T,st =>
  let n:=Y+1+st.length
  let r:=cG Y U T (st++cU U n w.2)
  ((w.1,if w.2.isEmpty=true then U else n)::r.1,r.2)
def cY(Y:Nat):Nat->GM->List (Nat×Nat×Nat)->List (List (Nat×Nat))×List (Nat×Nat×Nat)
 |_,[],st=>([],st)
 |p,ways::gm,st =>
  let a:=cG Y (p+1) ways st
  let r:=cY Y (p+1) gm a.2
  (a.1::r.1,r.2)
def ji(all:Nat)(gm:GM):jo:=⟨gm.length,all,(cY gm.length 0 gm []).2,(cY gm.length 0 gm []).1⟩
section
variable{gm:GM}
structure Ot(gm:GM)(st:List (Nat×Nat×Nat))(pos:Pos):Prop where
 len:st.length=pos.length
 step:∀(q m g a:Nat),st[q]?=some (m,g,a)->∃r rest,pos[q]?=some ((m,g)::r,rest)/\bL gm pos a=some (r,rest)
theorem yn{Y:Pos}{n:Nat}{x:List (Nat×Nat)×GM}(U:Pos)(h:bL gm Y n=some x):bL gm (Y++U) n=some x:=by
 unfold bL at h ⊢;split
 .rename_i T;rw[ag T]at h;exact h
 rename_i T;rw[ae T]at h;rw[uq (dE.mp h).1];exact h
theorem Wb(rest:GM)(Q:Nat)(T:Q<=gm.length)(Y:gm.drop Q=rest):∀(r:List (Nat×Nat)) (pre:List (Nat×Nat)) (st:List (Nat×Nat×Nat)) (U:Pos),st.length=U.length->
  ∀(q m g a:Nat),(cU Q (gm.length+1+st.length) r)[q]?=some (m,g,a)->∃O,(uc rest r)[q]?=some ((m,g)::O,rest)/\bL gm (U++uc rest r) a=some (O,rest)
 |[],_,_,_,_,q,m,g,a,h=>by simp[cU]at h
 |(N,M)::r,pre,st,U,L,q,m,g,a,h=>by
  cases q with
  |zero =>
   simp only[cU,KW,gY,gD]at h;obtain⟨rfl,rfl,rfl⟩:=h;refine⟨r,by simp[uc],?_⟩
   cases r with
   |nil =>
    simp only[NT,dB];unfold bL;rw[ag T,Y]
   |cons y r =>
    simp only[List.isEmpty_cons,oN,gA];unfold bL;rw[ae ao,show gm.length+1+st.length+1 - gm.length - 1=U.length+1 by lia,oC ao]
    simp[uc]
  |succ q =>
   simp only[cU,Kp]at h;obtain⟨O,J,I⟩:=Wb rest Q T Y r [] (st++[(0,0,0)]) (U++[((N,M)::r,rest)]) (by simp[L]) q m g a (by rw[<-h];congr 2;simp;lia)
   refine⟨O,by simpa[uc]using J,?_⟩
   simpa[uc]using I
theorem Qg(p:Nat)(I:p<gm.length):∀(T:List dh) (st:List (Nat×Nat×Nat)) (Y:Pos),Ot gm st Y->
  ∃U,Ot gm (cG gm.length (p+1) T st).2 (Y++U)/\(cG gm.length (p+1) T st).1.length=T.length/\
   ∀(i:Nat) (w:dh),T[i]?=some w->∃O,(cG gm.length (p+1) T st).1[i]?=some (w.1,O)/\bL gm (Y++U) O=some (w.2,gm.drop (p+1))/\p<O
 |[],st,Y,h=>⟨[],by simpa[cG]using h,rfl,λi w e=>by simp at e⟩
 |w::T,st,Y,h=>by
  have R:=Wb (gm:=gm) (gm.drop (p+1)) (p+1) ao rfl w.2 [] st Y h.len;have H:Ot gm (st++cU (p+1) (gm.length+1+st.length) w.2) (Y++uc (gm.drop (p+1)) w.2):=by
   refine⟨by simp[i7,Fd,h.len],λq m g a e=>?_⟩
   by_cases J:q<st.length
   .rw[uq J]at e;obtain⟨r,rest,N,M⟩:=h.step q m g a e;exact⟨r,rest,by rw[uq (by rw[<-h.len];exact J)];exact N,yn _ M⟩
   rw[oC ao]at e;obtain⟨r,N,M⟩:=R _ m g a e;exact⟨r,_,by rw[oC (by rw[<-h.len];lia),<-h.len];exact N,M⟩
  obtain⟨U,G,E,D⟩:=Qg p I T _ _ H;refine⟨uc (gm.drop (p+1)) w.2++U,?_,?_,λi v e=>?_⟩
  .rw[<-rD];exact G
  .show(_::_).length=_;simp only[cT];rw[E]
  rw[<-rD];cases i with
  |zero =>
   simp at e;subst e;refine⟨_,rfl,yn _ ?_,?_⟩
   .by_cases Q:w.2=[]
    .rw[ag (by simp[Q]),Q]
     unfold bL;rw[ag ao]
    rw[ae (by simpa using Q)]
    unfold bL;rw[ae ao,show gm.length+1+st.length - gm.length - 1=Y.length by have:=h.len;lia,oC (bD _),Nv]
    cases L:w.2 with
    |nil=>exact absurd L Q
    |cons m r=>simp[uc]
   split<;>lia
  |succ i=>exact D i v (by simpa using e)
theorem Li:∀(ps:GM) (p:Nat) (st:List (Nat×Nat×Nat)) (Y:Pos),gm.drop p=ps->p+ps.length=gm.length->Ot gm st Y->
  ∃U,Ot gm (cY gm.length p ps st).2 (Y++U)/\(cY gm.length p ps st).1.length=ps.length/\
   ∀(i:Nat) (ways:List dh),ps[i]?=some ways->∃bs,(cY gm.length p ps st).1[i]?=some bs/\bs.length=ways.length/\∀(j:Nat) (w:dh),ways[j]?=some w->∃T,bs[j]?=some (w.1,T)/\bL gm (Y++U) T=some (w.2,gm.drop (p+i+1))/\p+i<T
 |[],p,st,Y,_,_,h=>⟨[],by simpa[cY]using h,rfl,λi w e=>by simp at e⟩
 |ways::ps,p,st,Y,hd,J,h=>by
  simp only[cT]at J;obtain⟨I,H,G,E⟩:=Qg (gm:=gm) p ao ways st Y h;have Q:gm.drop (p+1)=ps:=by rw[<-List.drop_drop,hd];rfl
  obtain⟨D,C,B,A⟩:=Li ps (p+1) _ _ Q ao H;refine⟨I++D,by rw[<-rD];exact C,?_,λi z e=>?_⟩
  .show(_::_).length=_;simp only[cT];rw[B]
  rw[<-rD];cases i with
  |zero =>
   simp at e;subst e;refine⟨_,rfl,G,λj w O=>?_⟩;obtain⟨T,N,M,L⟩:=E j w O;exact⟨T,N,yn _ M,L⟩
  |succ i =>
   obtain⟨bs,N,M,L⟩:=A i z (by simpa using e)
   refine⟨bs,N,M,λj w O=>?_⟩;obtain⟨T,y,v,u⟩:=L j w O;exact⟨T,y,by rw[v,show p+1+i+1=p+(i+1)+1 by lia],ao⟩
theorem aaZ(all:Nat)(gm:GM):∃pos,pZ gm (ji all gm) pos:=by
 obtain⟨Y,U,T,Q⟩:=Li (gm:=gm) gm 0 [] [] rfl aP ⟨rfl,λq m g a e=>by simp at e⟩
 refine⟨Y,rfl,?_,?_,T,λp ways e=>?_⟩
 .have:=U.len;rw[vn]at this;exact this
 .have:=U.step;rw[vn]at this;exact this
 obtain⟨bs,O,N,M⟩:=Q p ways e;refine⟨bs,O,N,λi w L=>?_⟩;obtain⟨J,I,H,G⟩:=M i w L;exact⟨J,I,by simpa using H,ao⟩
end
def fsum{κ:Type}(val:κ->TC)(F:DL κ):TC:=e8 (F.map λe=>dA (some e.2) (val e.1))
section
variable{κ:Type}[DecidableEq κ]
theorem Dj(val:κ->TC)(k:κ)(c n:Nat):∀F:DL κ,fsum val (dY k c n F)=ck (fsum val F) (dA (some (c,n)) (val k))
 |[]=>by simp[fsum,dY,e8,di];rfl
 |(j,v)::r=>by
  simp only[dY];by_cases Y:j=k
  .subst Y;simp only[dB,fsum,bM,e8];have e:(some (if c<v.1 then(c,n)else if c=v.1 then(c,v.2+n)else v):TC)=ck (some v) (some (c,n)):=by
    simp only[ck];split<;>(try split)<;>rfl
   rw[e,XA,i8,La (dA (some (c,n)) _),<-i8]
  rw[ae Y];have U:=Dj val k c n r;simp only[fsum,bM,e8]at U ⊢;rw[U,i8]
def iU(k:κ):DL κ->DL κ
 |[]=>[]
 |(j,v)::r=>if j=k then r else(j,v)::iU k r
theorem II(val:κ->TC)(k:κ)(v:Nat×Nat):∀F:DL κ,look k F=some v->fsum val F=ck (fsum val (iU k F)) (dA (some v) (val k))
 |[],h=>by simp[look]at h
 |(j,u)::r,h=>by
  simp only[look]at h;simp only[iU];by_cases Y:j=k
  .subst Y;rw[ag rfl]at h;cases h;rw[ag rfl];simp only[fsum,bM,e8];rw[La]
  rw[ae Y]at h ⊢;have U:=II val k v r h;simp only[fsum,bM,e8]at U ⊢;rw[U,i8]
theorem uR(k:κ):∀F:DL κ,(F.map (·.1)).Nodup->∀x,x∈(iU k F).map (·.1)↔x∈F.map (·.1)/\x≠k
 |[],_,x=>by simp[iU]
 |(j,u)::r,h,x=>by
  simp only[bM,qD]at h;simp only[iU];by_cases Y:j=k
  .subst Y;rw[ag rfl];simp only[bM,b0];constructor
   .intro q;exact⟨.inr q,λe=>h.1 (e▸q)⟩
   rintro⟨q|q,w⟩
   .exact absurd q w
   exact q
  rw[ae Y];simp only[bM,b0,uR k r h.2 x];constructor
  .rintro(q|⟨q,w⟩)
   .exact⟨.inl q,λe=>Y (q.symm.trans e)⟩
   exact⟨.inr q,w⟩
  rintro⟨q|q,w⟩
  .exact .inl q
  exact .inr ⟨q,w⟩
theorem yd(k:κ):∀F:DL κ,(F.map (·.1)).Nodup->((iU k F).map (·.1)).Nodup
 |[],h=>h
 |(j,u)::r,h=>by
  simp only[iU];simp only[bM,qD]at h;split
  .exact h.2
  simp only[bM,qD];exact⟨λq=>h.1 ((uR k r h.2 j).mp q).1,yd k r h.2⟩
end
theorem Ss{T:Nat}:∀(l:List TC),(∀a,e8 l=some a->T<=a.1)->∀t∈l,∀a,t=some a->T<=a.1
 |[],_,_,h,_,_=>by simp at h
 |x::l,h,t,O,a,e=>by
  have N:∀(x y:TC),(∀a,ck x y=some a->T<=a.1)->(∀a,x=some a->T<=a.1)/\(∀a,y=some a->T<=a.1):=by
   intro x y Y;cases x with
   |none=>exact⟨λa q=>by(cases q),λa q=>Y a (by rw[q];rfl)⟩
   |some x =>
    cases y with
    |none=>exact⟨λa q=>Y a (by rw[q];rfl),λa q=>by(cases q)⟩
    |some y =>
     simp only[ck]at Y;refine⟨λa q=>?_,λa q=>?_⟩
     .cases q;by_cases U:y.1<x.1
      .have:=Y y (by rw[ag U]);lia
      by_cases Q:y.1=x.1
      .have:=Y (y.1,x.2+y.2) (by rw[ae U,ag Q]);simp only[]at this;lia
      exact Y x (by rw[ae U,ae Q])
     cases q;by_cases U:y.1<x.1
     .exact Y y (by rw[ag U])
     by_cases Q:y.1=x.1
     .have:=Y (y.1,x.2+y.2) (by rw[ae U,ag Q]);simp only[]at this;lia
     have:=Y x (by rw[ae U,ae Q]);lia
  simp only[e8]at h;obtain⟨M,L⟩:=N _ _ h;rcases b0.mp O with rfl|O
  .exact M a e
  exact Ss l L t O a e
theorem JI{Y:Nat}:∀(l:List TC),(∀t∈l,∀a,t=some a->Y<=a.1)->fB Y (e8 l)=(l.map (fB Y)).sum
 |[],_=>rfl
 |x::l,h=>by
  have J:=JI l λt N=>h t (cF _ N);simp only[e8,bM,js];rw[<-J];have I:=h x df;have G:∀a,e8 l=some a->Y<=a.1:=by
   clear J I
   induction l with
   |nil=>intro a q;cases q
   |cons y l M =>
    intro a q;simp only[e8]at q;have U:=h y aP;have T:=M λt N=>h t (by
     rcases b0.mp N with e|e
     .exact b0.mpr (.inl e)
     exact cF _ (cF _ e))
    cases y with
    |none=>exact T a q
    |some y =>
     cases Q:e8 l with
     |none=>rw[Q]at q;cases q;exact U _ rfl
     |some z =>
      rw[Q]at q;have H:=U y rfl;have L:=T z Q;simp only[ck]at q;split at q
      .cases q;exact L
      split at q
      .cases q;exact L
      cases q;exact H
  cases x with
  |none=>simp[fB,ck]
  |some x =>
   cases Q:e8 l with
   |none=>simp[fB,ck]
   |some y =>
    have H:=I x rfl;have L:=G y Q;simp only[ck,fB];by_cases U:y.1<x.1
    .rw[ag U,ae (show ¬x.1=Y by lia)];simp[fB]
    rw[ae U];by_cases T:y.1=x.1
    .rw[ag T];by_cases O:y.1=Y
     .simp only[fB];rw[ag O,ag (show x.1=Y by lia),ag O]
     simp only[fB];rw[ae O,ae (show ¬x.1=Y by lia),ae O]
    rw[ae T,ae (show ¬y.1=Y by lia)];simp[fB]
end
section
def jW(all:Nat)(P:List Nat->Bool)(os:List Off)(row:List (Nat×Nat))(rest:GM)(met:Nat):TC:=S ((bP (aU all rest) os row met).filter λp=>P p.marks)
def bY(gm:GM)(all:Nat)(Y:Pos)(P:List Nat->Bool)(os:List Off)(k:Nat×Nat):TC:=
 match bL gm Y k.1 with
 |some x=>jW all P os x.1 x.2 k.2
 |none=>none
theorem SV{all:Nat}{P:List Nat->Bool}{os:List Off}{row:List (Nat×Nat)}{rest:GM}{met:Nat}(h:all<met):jW all P os row rest met=none:=by
 unfold jW;rw[mK _ all (r8 all rest) os row met h];rfl
theorem CN(all:Nat)(os:List Off)(row:List (Nat×Nat))(rest:GM)(met:Nat):jW all (λ_=>true) os row rest met=EN all row rest os met:=by
 unfold jW EN;rw[ub.mpr aP]
theorem WC(all met:Nat)(P:List Nat->Bool)(ways:List dh)(rest:GM)(os:List Off):jW all P os [] (ways::rest) met=e8 (ways.map λw=>iI w.1 (jW all P os w.2 rest met)):=by
 simp only[jW,c9,aU,S8];rw[Ll];have:∀(l:List dh) (n:Nat),(l.zipIdx n).map (λx=>S (((bP (aU all rest) os x.1.2 met).map (Path.alt x.2 x.1.1)).filter λp=>P p.marks))=l.map λw=>iI w.1 (S ((bP (aU all rest) os w.2 met).filter λp=>P p.marks)):=by
  intro l
  induction l with
  |nil=>intro n;rfl
  |cons a l Y=>intro n;rw[Jk,bM,Y,ra,acg];rfl
 rw[this]
def hd(v:Nat)(P:List Nat->Bool):List Nat->Bool
 |[]=>false
 |a::l=>(a==v)&&P l
theorem Tx(all met m g:Nat)(P:List Nat->Bool)(r:List (Nat×Nat))(rest:GM)(o:Off)(os:List Off):jW all (hd 0 P) (o::os) ((m,g)::r) rest met=if o.mj=true then jW all P os ((m,g)::r) rest met else none:=by
 simp only[jW,bP,CF,Aa];have Y:((if o.tk.getD m 0=0 then[]else(bP (aU all rest) os r (bQ met g o.we)).map (Path.take (o.tk.getD m 0) (o.pr.getD m 0))).filter λp=>hd 0 P p.marks)=[]:=by
  split
  .rfl
  rename_i h;rw[GC];intro p U;obtain⟨q,_,rfl⟩:=bS.mp U;simp only[Path.take,hd,JK h,IG];exact f9
 rw[Y,Zb,di];split
 .rw[ra,V4];rfl
 rfl
theorem WM(all met m g v:Nat)(U:v≠0)(P:List Nat->Bool)(r:List (Nat×Nat))(rest:GM)(o:Off)(os:List Off)(Y:o.pr.getD m 0=0):jW all (hd v P) (o::os) ((m,g)::r) rest met=if o.tk.getD m 0=v then jW all P os r rest (bQ met g o.we)else none:=by
 simp only[jW,bP,CF,Aa];have T:((if o.mj=true then(bP (aU all rest) os ((m,g)::r) met).map Path.skip else[]).filter λp=>hd v P p.marks)=[]:=by
  split
  .rw[GC];intro p Y;obtain⟨q,_,rfl⟩:=bS.mp Y;simp only[Path.skip,hd,JK (λe:0=v=>U e.symm),IG];exact f9
  rfl
 rw[T,Zb,Wo];by_cases h:o.tk.getD m 0=v
 .rw[ag h,ae ao,ra,VE,Y,WX];congr 1;apply ni;intro p _;simp only[Function.comp,Path.take,hd,h,EW,IX]
 rw[ae h];split
 .rfl
 have:(((bP (aU all rest) os r (bQ met g o.we)).map (Path.take (o.tk.getD m 0) (o.pr.getD m 0))).filter λp=>hd v P p.marks)=[]:=by
  rw[GC];intro p Y;obtain⟨q,_,rfl⟩:=bS.mp Y;simp only[Path.take,hd,JK h,IG];exact f9
 rw[this];rfl
theorem LD(all met:Nat)(P:List Nat->Bool)(o:Off)(os:List Off):jW all P (o::os) [] [] met=none:=by
 simp[jW,bP,aU,S,eS]
section
variable{gm:GM}{all:Nat}{t:jo}{pos:Pos}
def mP(bs:List (Nat×Nat))(p met:Nat)(F:DL (Nat×Nat)):DL (Nat×Nat):=
 match look (p,met) F with
 |none=>F
 |some v=>bs.foldl (λF b=>dY (b.2,met) (v.1+b.1) v.2 F) (iU (p,met) F)
theorem BM(val:Nat×Nat->TC)(met:Nat)(v:Nat×Nat):∀(bs:List (Nat×Nat)) (F:DL (Nat×Nat)),
  fsum val (bs.foldl (λF b=>dY (b.2,met) (v.1+b.1) v.2 F) F)=ck (fsum val F) (dA (some v) (e8 (bs.map λb=>iI b.1 (val (b.2,met)))))
 |[],F=>by simp[e8,sV,di]
 |b::bs,F=>by
  rw[ng,BM val met v bs,Dj,bM,e8,G9,<-Yi,<-Xf,i8];rfl
theorem K9(T:pZ gm t pos){p met:Nat}{P:List Nat->Bool}{os:List Off}(U:p<gm.length){bs:List (Nat×Nat)}(N:t.wU[p]?=some bs) :
  bY gm all pos P os (p,met)=e8 (bs.map λb=>iI b.1 (bY gm all pos P os (b.2,met))):=by
 obtain⟨ways,Q⟩:∃ways,gm[p]?=some ways:=⟨_,cu U⟩;obtain⟨M,O,G,L⟩:=T.fork p ways Q;rw[N]at O;cases O;have e0:gm.drop p=ways::gm.drop (p+1):=by
  rw[xI U];congr 1;rw[cu U]at Q;exact cp Q
 have J:bL gm pos p=some ([],ways::gm.drop (p+1)):=by
  unfold bL;rw[ag ao,e0]
 unfold bY;simp only[J];rw[WC];congr 1;apply List.ext_getElem?;intro i;rw[cM,cM];cases Y:ways[i]? with
 |none =>
  have:bs[i]?=none:=by
   rw[Uc]at Y ⊢;lia
  rw[this];rfl
 |some w =>
  obtain⟨E,I,H,_⟩:=L i w Y;rw[I];simp only[iL,H]
theorem Oo(T:pZ gm t pos){p met:Nat}{P:List Nat->Bool}{os:List Off}(Y:p<gm.length){bs:List (Nat×Nat)}(U:t.wU[p]?=some bs)(F:DL (Nat×Nat)) :
  fsum (bY gm all pos P os) (mP bs p met F)=fsum (bY gm all pos P os) F:=by
 unfold mP;cases h:look (p,met) F with
 |none=>rfl
 |some v=>rw[BM,<-K9 T Y U,<-II _ _ _ F h]
structure iO(gm:GM)(pos:Pos)(all p m:Nat)(F:DL (Nat×Nat)):Prop where
 nd:(F.map (·.1)).Nodup
 at_:∀k∈F.map (·.1),(bL gm pos k.1).isSome=true/\k.2<=all/\(p<k.1\/(k.1=p/\m<=k.2))
theorem zX{κ:Type}[DecidableEq κ]{k x:κ}{c n:Nat}{F:DL κ}:x∈(dY k c n F).map (·.1)↔x∈F.map (·.1)\/x=k:=by
 rw[Dt];split
 .rename_i h;exact⟨.inl,λq=>q.elim id λe=>e▸h⟩
 simp
theorem PD(T:pZ gm t pos){p met:Nat}(A:p<gm.length)(z:met<=all){bs:List (Nat×Nat)}(N:t.wU[p]?=some bs){F:DL (Nat×Nat)}(K:iO gm pos all p met F):iO gm pos all p (met+1) (mP bs p met F):=by
 obtain⟨ways,y⟩:∃ways,gm[p]?=some ways:=⟨_,cu A⟩;obtain⟨u,D,j,s⟩:=T.fork p ways y;rw[N]at D;cases D;have M:∀b∈bs,(bL gm pos b.2).isSome=true/\p<b.2:=λb N=>by
  obtain⟨i,r,rfl⟩:=NF N;have L:i<ways.length:=by lia
  obtain⟨nd,C,q,o⟩:=s i ways[i] (cu L);rw[cu r]at C;have J:=cp C;rw[J];exact⟨by simp[q],o⟩
 have go:∀(l:List (Nat×Nat)) (v:Nat×Nat) (G:DL (Nat×Nat)),(∀b∈l,b∈bs)->iO gm pos all p (met+1) G->iO gm pos all p (met+1) (l.foldl (λF b=>dY (b.2,met) (v.1+b.1) v.2 F) G):=by
  intro l v
  induction l with
  |nil=>intro G _ h;exact h
  |cons b l n =>
   intro G B h;rw[ng];refine n _ (λc m=>B c (cF _ m)) ⟨uT h.nd,λk U=>?_⟩;rcases zX.mp U with U|rfl
   .exact h.at_ k U
   obtain⟨Q,O⟩:=M b (B b df);exact⟨Q,z,.inl O⟩
 unfold mP;cases h:look (p,met) F with
 |none =>
  refine⟨K.nd,λk U=>?_⟩;obtain⟨Q,O,Y⟩:=K.at_ k U;refine⟨Q,O,?_⟩;rcases Y with Y|⟨e,Y⟩
  .exact .inl Y
  refine .inr ⟨e,?_⟩;have:k.2≠met:=λI=>xp.mp h (by rw[<-e,<-I];exact U)
  lia
 |some v =>
  refine go bs v _ (λ_ h=>h) ⟨yd _ _ K.nd,λk U=>?_⟩;obtain⟨H,E⟩:=(uR _ _ K.nd k).mp U;obtain⟨Q,O,Y⟩:=K.at_ k H;refine⟨Q,O,?_⟩;rcases Y with Y|⟨e,Y⟩
  .exact .inl Y
  refine .inr ⟨e,?_⟩;have:k.2≠met:=λI=>E (by rw[<-e,<-I])
  lia
theorem iO.next{p:Nat}{F:DL (Nat×Nat)}(K:iO gm pos all p (all+1) F):iO gm pos all (p+1) 0 F:=
 ⟨K.nd,λk Y=>by
  obtain⟨U,T,Q⟩:=K.at_ k Y;exact⟨U,T,ao⟩⟩
def ie(t:jo)(o:Off)(v:Nat)(acc:DL (Nat×Nat))(e:(Nat×Nat)×(Nat×Nat)):DL (Nat×Nat):=
 if e.1.1=t.goal then acc else
  let st:=t.steps.getD (e.1.1 - t.goal - 1) (0,0,0)
  if o.tk.getD st.1 0=v/\bQ e.1.2 st.2.1 o.we<16 then dY (st.2.2,bQ e.1.2 st.2.1 o.we) e.2.1 e.2.2 acc else acc
theorem kR(T:pZ gm t pos){n:Nat}(h:(bL gm pos n).isSome=true)(L:t.goal<n):∃m g a r rest,t.steps[n - t.goal - 1]?=some (m,g,a)/\bL gm pos n=some ((m,g)::r,rest)/\bL gm pos a=some (r,rest):=by
 obtain⟨x,Q⟩:=Uq.mp h;have Y:=Q;unfold bL at Y;rw[ae (by rw[<-T.goal];lia)]at Y
 have U:=(dE.mp Y).1;obtain⟨⟨m,g,a⟩,O⟩:∃y,t.steps[n - t.goal - 1]?=some y:=⟨_,cu (by rw[T.len,T.goal];exact U)⟩
 obtain⟨r,rest,N,M⟩:=T.step _ m g a O;rw[T.goal]at N;rw[N]at Y;refine⟨m,g,a,r,rest,O,by rw[Q,<-Y],M⟩
theorem D8(T:pZ gm t pos)(Y:all<=15){v:Nat}(N:v≠0){P:List Nat->Bool}{o:Off}{os:List Off}(U:∀m,o.pr.getD m 0=0) :
  ∀(F acc:DL (Nat×Nat)),(∀k∈F.map (·.1),(bL gm pos k.1).isSome=true/\t.goal<=k.1)->
   fsum (bY gm all pos P os) (F.foldl (ie t o v) acc)=ck (fsum (bY gm all pos P os) acc) (fsum (bY gm all pos (hd v P) (o::os)) F)
 |[],acc,_=>by simp[fsum,e8,di]
 |((n,met),c)::F,acc,h=>by
  obtain⟨J,I⟩:=h (n,met) aP;have H:=D8 T Y N (P:=P) (os:=os) U F;rw[ng,H _ λk G=>h k (by rw[bM];exact cF _ G)]
  have e0:fsum (bY gm all pos (hd v P) (o::os)) (((n,met),c)::F)=ck (dA (some c) (bY gm all pos (hd v P) (o::os) (n,met))) (fsum (bY gm all pos (hd v P) (o::os)) F):=rfl;rw[e0,<-i8];congr 1;unfold ie;by_cases O:n=t.goal
  .simp only[ag O];have:bY gm all pos (hd v P) (o::os) (n,met)=none:=by
    unfold bY bL;simp only[];rw[ag (by rw[O,T.goal];lia)]
    simp only[];rw[O,T.goal,Gk,LD]
   rw[this,sV,di]
  simp only[ae O];obtain⟨m,g,a,r,rest,E,D,M⟩:=kR T J (by simp only[]at I;lia)
  have C:t.steps.getD (n - t.goal - 1) (0,0,0)=(m,g,a):=by rw[dU,E];rfl
  simp only[C];have ev:bY gm all pos (hd v P) (o::os) (n,met)=if o.tk.getD m 0=v then bY gm all pos P os (a,bQ met g o.we)else none:=by
   unfold bY;simp only[D,M];rw[WM _ _ _ _ _ N _ _ _ _ _ (U m)]
  by_cases Q:o.tk.getD m 0=v
  .by_cases L:bQ met g o.we<16
   .rw[ag ⟨Q,L⟩,Dj,ev,ag Q]
   rw[ae (λq=>L q.2),ev,ag Q];have:bY gm all pos P os (a,bQ met g o.we)=none:=by
    unfold bY;simp only[M];exact SV ao
   rw[this,sV,di]
  rw[ae (λq=>Q q.1),ev,ae Q,sV,di]
theorem Dx(T:pZ gm t pos){P:List Nat->Bool}{o:Off}{os:List Off}(U:o.mj=true->os≠[]) :
  ∀(F:DL (Nat×Nat)),(∀k∈F.map (·.1),(bL gm pos k.1).isSome=true/\t.goal<=k.1)->
   fsum (bY gm all pos P os) (if o.mj=true then F else[])=fsum (bY gm all pos (hd 0 P) (o::os)) F
 |[],_=>by split<;>rfl
 |((n,met),c)::F,h=>by
  obtain⟨N,M⟩:=h (n,met) aP;have L:=Dx T (P:=P) U F λk J=>h k (by rw[bM];exact cF _ J)
  have e0:fsum (bY gm all pos (hd 0 P) (o::os)) (((n,met),c)::F)=ck (dA (some c) (bY gm all pos (hd 0 P) (o::os) (n,met))) (fsum (bY gm all pos (hd 0 P) (o::os)) F):=rfl;rw[e0,<-L];have ev:bY gm all pos (hd 0 P) (o::os) (n,met)=if o.mj=true then bY gm all pos P os (n,met)else none:=by
   by_cases Q:n=t.goal
   .have O:∀(P:List Nat->Bool) (y:Off) (ys:List Off),bY gm all pos P (y::ys) (n,met)=none:=λP y ys=>by
     unfold bY bL;simp only[];rw[ag (by rw[Q,T.goal];lia)]
     simp only[];rw[Q,T.goal,Gk,LD]
    rw[O];split
    .rename_i q;cases os with
     |nil=>exact absurd rfl (U q)
     |cons y ys=>rw[O]
    rfl
   obtain⟨m,g,a,r,rest,H,I,G⟩:=kR T N (by simp only[]at M;lia)
   unfold bY;simp only[I];rw[Tx]
  rw[ev];by_cases Y:o.mj=true
  .rw[ag Y,ag Y,ag Y];rfl
  rw[ae Y,ae Y,ae Y,sV];rfl
def xw(all:Nat)(x:Nat):Prop:=∀b,x.testBit b=true->all.testBit b=true\/b=4
theorem xw.le{x:Nat}(h:xw all x)(U:x<16):x<=all:=by
 have e:x &&& all=x:=by
  apply T9;intro b;rw[NQ];cases Y:x.testBit b with
  |false=>simp
  |true =>
   rcases h b Y with q|q
   .simp[q]
   subst q;have:x.testBit 4=false:=Nat.testBit_lt_two_pow ao;rw[Y]at this;cases this
 have:=@Nat.and_le_right x all;lia
theorem xw.bQ{met g:Nat}{Q:Bool}(h:met<=all)(T:∃k,all=2 ^ k - 1)(O:xw all g):xw all (bQ met g Q):=by
 intro b Y;obtain⟨k,N⟩:=T;have U:∀b,met.testBit b=true->all.testBit b=true:=λb Y=>by
  rw[N,Pu];apply wQ;apply IC;intro M;have L:2 ^ b<=met:=Nat.ge_two_pow_of_testBit Y;have J:2 ^ k<=2 ^ b:=yx ao ao;have:0<2 ^ k:=Nat.two_pow_pos k;lia
 unfold VM.bQ at Y;split at Y
 .rw[Te,CA]at Y;rcases Y with Y|Y
  .exact .inl (U b Y)
  exact O b Y
 exact .inl (U b Y)
def OQ(all:Nat)(t:jo):Prop:=∀(q m g a:Nat),t.steps[q]?=some (m,g,a)->xw all g
theorem D5(T:pZ gm t pos)(U:∃k,all=2 ^ k - 1)(G:OQ all t){o:Off}{v:Nat}:∀(F acc:DL (Nat×Nat)),(∀k∈F.map (·.1),(bL gm pos k.1).isSome=true/\t.goal<=k.1/\k.2<=all)->iO gm pos all 0 0 acc->
  iO gm pos all 0 0 (F.foldl (ie t o v) acc)
 |[],acc,_,h=>h
 |((n,met),c)::F,acc,Q,h=>by
  rw[ng];refine D5 T U G F _ (λk Y=>Q k (by rw[bM];exact cF _ Y)) ?_
  obtain⟨M,L,J⟩:=Q (n,met) aP;unfold ie;by_cases O:n=t.goal
  .simp only[ag O];exact h
  simp only[ae O];obtain⟨m,g,a,r,rest,N,D,I⟩:=kR T M (by simp only[]at L;lia)
  have H:t.steps.getD (n - t.goal - 1) (0,0,0)=(m,g,a):=by rw[dU,N];rfl
  simp only[H];split
  .rename_i E;refine⟨uT h.nd,λk Y=>?_⟩;rcases zX.mp Y with q|rfl
   .exact h.at_ k q
   refine⟨by simp[I],((G _ m g a N).bQ J U).le E.2,?_⟩
   simp only[];lia
  exact h
end
end
end VM
namespace VM
open Sw66 (Syll Alt Cut Metre Line Scan less)
theorem FI:∀a:List Nat,less a a=false
 |[]=>rfl
 |x::a=>by simp[less,FI a]
theorem Bm:∀{a b c:List Nat},less a b=true->less b c=true->less a c=true
 |[],[],_,h,_=>by simp[less]at h
 |[],_::_,[],_,h=>by simp[less]at h
 |[],_::_,_::_,_,_=>rfl
 |_::_,[],_,h,_=>by simp[less]at h
 |_::_,_::_,[],_,h=>by simp[less]at h
 |x::a,y::b,z::c,U,Y=>by
  simp only[less,CA,dI,gN,lK]at U Y ⊢;rcases U with U|⟨rfl,U⟩
  .rcases Y with Y|⟨rfl,Y⟩
   .left;lia
   left;exact U
  rcases Y with Y|⟨rfl,Y⟩
  .left;exact Y
  right;exact⟨rfl,Bm U Y⟩
theorem JW{a b:List Nat}(h:less a b=true):less b a=false:=by
 cases q:less b a with
 |false=>rfl
 |true=>have:=Bm h q;rw[FI]at this;cases this
theorem Jc:∀{a b:List Nat},a.length=b.length->less a b=false->less b a=false->a=b
 |[],[],_,_,_=>rfl
 |[],_::_,h,_,_=>by simp at h
 |_::_,[],h,_,_=>by simp at h
 |x::a,y::b,h,Y,U=>by
  simp only[less,ZC,T5,Bool.and_eq_false_iff,beq_eq_false_iff_ne]at Y U;have e:x=y:=by lia
  subst e;rw[Jc (a:=a) (b:=b) (by simpa using h) (Y.2.resolve_left (λq=>q rfl)) (U.2.resolve_left (λq=>q rfl))]
theorem yi:∀(p a b:List Nat),less (p++a) (p++b)=less a b
 |[],_,_=>rfl
 |x::p,a,b=>by simp[less,yi p a b]
def Le(x y:Scan):Prop:=less y.row x.row=false
theorem mem_insert{x y:Scan}:∀{l:List Scan},y∈Sw66.insert x l↔y=x\/y∈l
 |[]=>by simp[Sw66.insert]
 |z::l=>by
  simp only[Sw66.insert];split
  .simp
  simp only[b0,mem_insert (l:=l)];constructor
  .rintro(h|h|h)
   .exact .inr (.inl h)
   .exact .inl h
   exact .inr (.inr h)
  rintro(h|h|h)
  .exact .inr (.inl h)
  .exact .inl h
  exact .inr (.inr h)
theorem BQ(x:Scan):∀{l:List Scan},l.Pairwise Le->(Sw66.insert x l).Pairwise Le
 |[],_=>by simp[Sw66.insert]
 |y::l,h=>by
  simp only[Sw66.insert];rw[KG]at h;split
  .rename_i Y;refine KG.mpr ⟨λz hz=>?_,KG.mpr h⟩;rcases b0.mp hz with rfl|hz
   .exact JW Y
   show less z.row x.row=false;cases q:less z.row x.row with
   |false=>rfl
   |true=>have:=Bm q Y;rw[show less z.row y.row=false from h.1 z hz]at this;cases this
  rename_i Y;refine KG.mpr ⟨λz hz=>?_,BQ x h.2⟩;rcases mem_insert.mp hz with rfl|hz
  .show less z.row y.row=false;simpa using Y
  exact h.1 z hz
theorem FV(x:Scan):∀l:List Scan,(Sw66.insert x l).Perm (x::l)
 |[]=>M5 _
 |y::l=>by
  simp only[Sw66.insert];split
  .exact M5 _
  exact((FV x l).cons y).trans (List.Perm.swap x y l)
theorem Sn:∀(l acc:List Scan),acc.Pairwise Le->(l.foldl (λm x=>Sw66.insert x m) acc).Pairwise Le/\(l.foldl (λm x=>Sw66.insert x m) acc).Perm (l++acc)
 |[],acc,h=>⟨h,M5 _⟩
 |x::l,acc,h=>by
  obtain⟨Y,U⟩:=Sn l (Sw66.insert x acc) (BQ x h);refine⟨Y,U.trans ?_⟩;exact((FV x acc).append_left l).trans (List.perm_middle)
theorem Qb{α:Type}(Y:α->Nat):∀(K:Nat) (A:List α),A.Pairwise (λa b=>Y a<=Y b)->(∀a∈A,Y a<K)->A=(List.range K).flatMap λv=>A.filter λa=>Y a==v
 |0,A,_,h=>by
  cases A with
  |nil=>rfl
  |cons a A=>exact absurd (h a df) (Nat.not_lt_zero _)
 |K+1,A,T,h=>by
  have split:∀(A:List α),A.Pairwise (λa b=>Y a<=Y b)->(∀a∈A,Y a<K+1)->A=(A.filter λa=>decide (Y a<K))++A.filter λa=>Y a==K:=by
   intro A
   induction A with
   |nil=>intros;rfl
   |cons a A O =>
    intro T h;rw[KG]at T;by_cases Q:Y a<K
    .rw[NP (by simpa using Q),UH (by simp;lia),rQ,<-O T.2 λb U=>h b (cF _ U)]
    have N:Y a=K:=by have:=h a df;lia
    have all:∀b∈A,Y b=K:=λb U=>by have:=T.1 b U;have:=h b (cF _ U);lia
    rw[UH (by simpa using Q),NP (by simpa using N)]
    rw[GC.mpr (λb U=>by have:=all b U;simp;lia),ub.mpr (λb U=>by simpa using all b U)]
    rfl
  rw[JD,CG];have e:=split A T h;have M:(List.range K).flatMap (λv=>A.filter λa=>Y a==v)=A.filter λa=>decide (Y a<K):=by
   rw[Qb Y K (A.filter λa=>decide (Y a<K)) (T.filter _) (λa Q=>by simpa using(g6.mp Q).2)]
   apply ki;intro v L;rw[GS];apply ni;intro a _;have:v<K:=by simpa using L
   by_cases q:Y a=v
   .simp[q,this]
   simp[q]
  rw[M];simp only[kb,List.flatMap_nil,iN];exact e
theorem yc{α β:Type}(f:α->List β):∀(l:List α) (i:Nat) (x:α) (a:Nat),l[i]?=some x->a<(f x).length->(l.flatMap f)[((l.take i).map λy=>(f y).length).sum+a]?=(f x)[a]?
 |[],_,_,_,h,_=>by simp at h
 |y::l,0,x,a,h,Y=>by
  simp at h;subst h;rw[kb,uq (by simpa using Y)]
  simp
 |y::l,i+1,x,a,h,Y=>by
  have U:=yc f l i x a (by simpa using h) Y
  rw[kb,Nb,bM,js,oC ao,<-U];congr 1;lia
theorem fw{α β:Type}(f:α->List β):∀l:List α,(l.flatMap f).length=(l.map λy=>(f y).length).sum
 |[]=>rfl
 |y::l=>by rw[kb,ee,fw f l];rfl
theorem zP{α:Type}{le:α->α->Prop}:∀{a b:List α},a.Perm b->a.Pairwise le->b.Pairwise le->(∀x∈a,∀y∈a,le x y->le y x->x=y)->a=b
 |[],b,p,_,_,_=>by rw[List.nil_perm]at p;exact p.symm
 |x::a,[],p,_,_,_=>by simp at p
 |x::a,y::b,p,Y,U,T=>by
  rw[KG]at Y U;have e:x=y:=by
   have Q:x∈y::b:=p.mem_iff.mp df;have O:y∈x::a:=p.mem_iff.mpr df;rcases b0.mp Q with h|h
   .exact h
   rcases b0.mp O with h'|h'
   .exact h'.symm
   exact T x df y (cF _ h') (Y.1 y h') (U.1 x h)
  subst e;rw[zP (p.cons_inv) Y.2 U.2 λu N v M=>T u (cF _ N) v (cF _ M)]
theorem Av(k:Nat->List Off->List Path)(Y:∀met os,∀p∈k met os,p.marks.length=os.length):∀(os:List Off) (row:List (Nat×Nat)) (met:Nat),∀p∈bP k os row met,p.marks.length=os.length
 |os,[],met,p,h=>by rw[c9]at h;exact Y met os p h
 |[],_::_,_,p,h=>by simp[bP]at h
 |o::os,(m,g)::r,met,p,h=>by
  simp only[bP,lV]at h;rcases h with h|h
  .split at h
   .obtain⟨q,U,rfl⟩:=bS.mp h;simp[Path.skip,Av k Y os _ _ q U]
   simp at h
  split at h
  .simp at h
  obtain⟨q,U,rfl⟩:=bS.mp h;simp[Path.take,Av k Y os _ _ q U]
theorem xG(all:Nat):∀(gm:GM) (met:Nat) (os:List Off),∀p∈aU all gm met os,p.marks.length=os.length
 |[],met,os,p,h=>by
  simp only[aU]at h;split at h
  .rename_i q;simp at h;subst h;simp at q;simp[q.1]
  simp at h
 |ways::gm,met,os,p,h=>by
  simp only[aU,G3]at h;obtain⟨w,_,h⟩:=h;obtain⟨q,Y,rfl⟩:=bS.mp h;exact Av _ (xG all gm) os _ _ q Y
theorem Uk(all:Nat):∀(gm:GM) (met:Nat) (os:List Off),∀p∈aU all gm met os,p.alts.length=gm.length:=by
 intro gm
 induction gm with
 |nil =>
  intro met os p h;simp only[aU]at h;split at h
  .simp at h;subst h;rfl
  simp at h
 |cons ways gm T =>
  intro met os p h;simp only[aU,G3]at h;obtain⟨w,_,h⟩:=h;obtain⟨q,Y,rfl⟩:=bS.mp h;have:∀(os:List Off) (row:List (Nat×Nat)) (met:Nat),∀p∈bP (aU all gm) os row met,p.alts.length=gm.length:=by
   intro os
   induction os with
   |nil =>
    intro row met p h;cases row with
    |nil=>rw[c9]at h;exact T _ _ p h
    |cons=>simp[bP]at h
   |cons o os U =>
    intro row met p h;cases row with
    |nil=>rw[c9]at h;exact T _ _ p h
    |cons m r =>
     obtain⟨m,g⟩:=m;simp only[bP,lV]at h;rcases h with h|h
     .split at h
      .obtain⟨q,Y,rfl⟩:=bS.mp h;exact U _ _ q Y
      simp at h
     split at h
     .simp at h
     obtain⟨q,Y,rfl⟩:=bS.mp h;exact U _ _ q Y
  simp[Path.alt,this os _ _ q Y]
def rE(gm:GM)(all:Nat)(U:Pos)(Y:List Off)(j:Nat)(T:List Nat)(F:DL (Nat×Nat)):Prop:=
 ∀P:List Nat->Bool,S ((aU all gm 0 Y).filter λp=>(p.marks.take j==T)&&P (p.marks.drop j))=fsum (bY gm all U P (Y.drop j)) F
theorem Ri(gm:GM)(all:Nat)(U:Pos)(Y:List Off):rE gm all U Y 0 [] [((0,0),(0,1))]:=by
 intro P;have e:fsum (bY gm all U P (Y.drop 0)) [((0,0),(0,1))]=bY gm all U P Y (0,0):=by
  simp only[fsum,bM,qC,e8,di,EV];cases bY gm all U P Y (0,0)<;>simp[dA]
 rw[e];unfold bY bL;simp only[dy,dB,EV,jW,c9];congr 1
theorem SO{gm:GM}{all:Nat}{U:Pos}{Y:List Off}{j:Nat}{T:List Nat}{F F':DL (Nat×Nat)}{o:Off}{v:Nat}(h:rE gm all U Y j T F)(N:Y[j]?=some o)(M:T.length=j)
  (J:∀P,fsum (bY gm all U P (Y.drop (j+1))) F'=fsum (bY gm all U (hd v P) (o::Y.drop (j+1))) F):rE gm all U Y (j+1) (T++[v]) F':=by
 intro P;have Q:=(dE.mp N).1;have I:Y.drop j=o::Y.drop (j+1):=by
  rw[xI Q];congr 1;rw[cu Q]at N;exact cp N
 rw[J,<-I,<-h (hd v P)];congr 1;apply ni;intro p H;have E:=xG all gm 0 Y p H;have O:j<p.marks.length:=by lia
 rw[xI O,Ke O];simp only[hd];have L:(p.marks.take j++[p.marks[j]]==T++[v])=((p.marks.take j==T)&&(p.marks[j]==v)):=by
  rw[lU,gN,lK,lK,lK];constructor
  .intro e;have:=List.append_inj e (by simp[M];lia)
   exact⟨this.1,by simpa using this.2⟩
  rintro⟨L,G⟩;rw[L,G]
 rw[L,Bool.and_assoc]
def jg(o:Off)(v:Nat):Off:=⟨v==0,o.tk.map λw=>if w=v then w else 0,o.pr,o.we⟩
def pins:List Off->List Nat->List Off
 |o::os,v::Y=>if v=0 then pins os Y else jg o v::pins os Y
 |_,_=>[]
theorem abT(o:Off){v:Nat}(Y:v≠0)(m:Nat):(jg o v).tk.getD m 0=if o.tk.getD m 0=v then v else 0:=by
 simp only[jg,dU,cM];cases h:o.tk[m]? with
 |none=>simp[λe:0=v=>Y e.symm]
 |some w =>
  simp only[iL,uC];split
  .rename_i e;exact e
  rfl
def ac(p:Path):List Nat×Nat:=(p.alts,p.cost)
structure mG(os:List Off)(ms:List Nat):Prop where
 len:ms.length=os.length
 mj:∀(i:Nat) (o:Off),os[i]?=some o->ms[i]?=some 0->o.mj=true
 last:ms.getLast?≠some 0
theorem mG.tail{o:Off}{os:List Off}{v:Nat}{ms:List Nat}(h:mG (o::os) (v::ms)):mG os ms:=by
 refine⟨by simpa using h.len,λi Y U T=>h.mj (i+1) Y (by simpa using U) (by simpa using T),λe=>h.last ?_⟩
 rw[YR,e];rfl
theorem BA:∀{os:List Off} {Y:List Nat},mG os Y->os≠[]->pins os Y≠[]
 |[],_,_,h=>absurd rfl h
 |o::os,[],h,_=>by have:=h.len;simp at this
 |o::os,v::Y,h,_=>by
  simp only[pins];split
  .rename_i U;subst U;cases os with
   |nil =>
    have:=h.len;simp at this;subst this;exact absurd rfl h.last
   |cons y os=>exact BA h.tail aP
  simp
def jy(os:List Off):Prop:=∀o∈os,∀m,o.pr.getD m 0=0
theorem jy.tail{o:Off}{os:List Off}(h:jy (o::os)):jy os:=λx Y=>h x (cF _ Y)
theorem GV(k:Nat->List Off->List Path)(Q:∀met os ms,mG os ms->jy os->((k met os).filter λp=>p.marks==ms).map ac=(k met (pins os ms)).map ac) :
  ∀(os:List Off) (row:List (Nat×Nat)) (met:Nat) (ms:List Nat),mG os ms->jy os->
   ((bP k os row met).filter λp=>p.marks==ms).map ac=(bP k (pins os ms) row met).map ac
 |os,[],met,ms,h,Y=>by rw[c9,c9];exact Q met os ms h Y
 |[],x::r,met,ms,h,_=>by
  have:ms=[]:=by have:=h.len;simpa using this
  subst this;simp[bP,pins]
 |o::os,(m,g)::r,met,[],h,_=>by have:=h.len;simp at this
 |o::os,(m,g)::r,met,v::ms,h,Y=>by
  have O:=GV k Q os ((m,g)::r) met ms h.tail Y.tail;have N:=GV k Q os r (bQ met g o.we) ms h.tail Y.tail;have H:=Y o df m;by_cases U:v=0
  .subst U;have G:o.mj=true:=h.mj 0 o aP aP;simp only[bP,pins,dB,ag G,CF,jK];rw[<-O];have E:((if o.tk.getD m 0=0 then[]else(bP k os r (bQ met g o.we)).map (Path.take (o.tk.getD m 0) (o.pr.getD m 0))).filter λp=>p.marks==0::ms)=[]:=by
    split
    .rfl
    rename_i D;rw[GC];intro p M;obtain⟨q,_,rfl⟩:=bS.mp M;intro e;have e:=beq_iff_eq.mp e;simp only[Path.take]at e;exact D (Uw e).1
   rw[E,qC,iN,ra,cf];have L:(bP k os ((m,g)::r) met).filter ((λp=>p.marks==0::ms) ∘ Path.skip)=(bP k os ((m,g)::r) met).filter λp=>p.marks==ms:=by
    apply ni;intro p _;simp[Function.comp,Path.skip]
   rw[L];rfl
  have C:(jg o v).mj=false:=by simp[jg,U]
  have J:(jg o v).pr.getD m 0=0:=H;have I:(jg o v).we=o.we:=rfl;simp only[bP,pins,ae U,C,oN,gA,vn,abT o U m,I,J,CF,jK];have B:((if o.mj=true then(bP k os ((m,g)::r) met).map Path.skip else[]).filter λp=>p.marks==v::ms)=[]:=by
   split
   .rw[GC];intro p M;obtain⟨q,_,rfl⟩:=bS.mp M;intro e;have e:=beq_iff_eq.mp e;simp only[Path.skip]at e;exact U (Uw e).1.symm
   rfl
  rw[B,qC,vn];by_cases T:o.tk.getD m 0=v
  .rw[ag T,T,ae U,ae U,H,ra,cf,cf];have L:(bP k os r (bQ met g o.we)).filter ((λp=>p.marks==v::ms) ∘ Path.take v 0)=(bP k os r (bQ met g o.we)).filter λp=>p.marks==ms:=by
    apply ni;intro p _;simp[Function.comp,Path.take]
   have A:ac ∘ Path.take v 0=ac:=by funext p;simp[Function.comp,ac,Path.take]
   rw[L,A,N]
  rw[ae T,ag rfl];split
  .rfl
  rw[ra];have:(bP k os r (bQ met g o.we)).filter ((λp=>p.marks==v::ms) ∘ Path.take (o.tk.getD m 0) (o.pr.getD m 0))=[]:=by
   rw[GC];intro p _ e;simp only[Function.comp]at e;have e:=beq_iff_eq.mp e;simp only[Path.take]at e;exact T (Uw e).1
  rw[this];rfl
theorem aaS(i c:Nat)(l Y:List Path)(h:l.map ac=Y.map ac):(l.map (Path.alt i c)).map ac=(Y.map (Path.alt i c)).map ac:=by
 have e:ac ∘ Path.alt i c=(λx:List Nat×Nat=>(i::x.1,c+x.2)) ∘ ac:=by funext p;rfl
 rw[cf,cf,e,<-cf,<-cf,h]
theorem C8(all:Nat):∀(gm:GM) (met:Nat) (os:List Off) (Y:List Nat),mG os Y->jy os->
  ((aU all gm met os).filter λp=>p.marks==Y).map ac=(aU all gm met (pins os Y)).map ac
 |[],met,os,Y,h,_=>by
  cases os with
  |nil =>
   have:Y=[]:=by have:=h.len;simpa using this
   subst this;simp only[aU,pins];by_cases U:met=all
   .simp[U]
   simp[U]
  |cons o os =>
   have:=BA h aP;simp only[aU,List.isEmpty_cons,oN,false_and,gA,T3];rw[ae];rintro⟨q,_⟩;exact this (by simpa using q)
 |ways::gm,met,os,Y,h,T=>by
  simp only[aU,S8,HX];apply ki;intro w _;rw[ra];exact aaS _ _ _ _ (GV _ (C8 all gm) os w.1.2 met Y h T)
theorem Z0(all:Nat):∀(gm:GM) (met:Nat) (os:List Off),∀p∈aU all gm met os,∀(i:Nat) (o:Off),os[i]?=some o->p.marks[i]?=some 0->o.mj=true:=by
 intro gm
 induction gm with
 |nil =>
  intro met os p h i o Y U;simp only[aU]at h;split at h
  .simp at h;subst h;simp at U
  simp at h
 |cons ways gm N =>
  intro met os p h;simp only[aU,G3]at h;obtain⟨w,_,h⟩:=h;obtain⟨q,T,rfl⟩:=bS.mp h;have:∀(os:List Off) (row:List (Nat×Nat)) (met:Nat),∀p∈bP (aU all gm) os row met,∀(i:Nat) (o:Off),os[i]?=some o->p.marks[i]?=some 0->o.mj=true:=by
   intro os
   induction os with
   |nil=>intro row met p h i o Y;simp at Y
   |cons o os Q =>
    intro row met p h i O Y U;cases row with
    |nil=>rw[c9]at h;exact N _ _ p h i O Y U
    |cons m r =>
     obtain⟨m,g⟩:=m;simp only[bP,lV]at h;rcases h with h|h
     .split at h
      .rename_i M;obtain⟨q,T,rfl⟩:=bS.mp h;cases i with
       |zero=>simp at Y;subst Y;exact M
       |succ i=>exact Q _ _ q T i O (by simpa using Y) (by simpa[Path.skip]using U)
      simp at h
     split at h
     .simp at h
     rename_i L;obtain⟨q,T,rfl⟩:=bS.mp h;cases i with
     |zero =>
      simp only[Path.take,KW,gY]at U;exact absurd U L
     |succ i=>exact Q _ _ q T i O (by simpa using Y) (by simpa[Path.take]using U)
  exact this os _ _ q T
def kO(os:List Off):Prop:=∀o∈os,o.mj=false
def fX:List Off->List (Nat×Nat)->Nat->Option (List Off×Nat)
 |[],[],met=>some ([],met)
 |[],_::_,_=>none
 |o::os,[],met=>some (o::os,met)
 |o::os,(m,g)::r,met=>if o.tk.getD m 0=0\/16<=bQ met g o.we then none else fX os r (bQ met g o.we)
theorem DT(os:List Off)(met:Nat):fX os [] met=some (os,met):=by cases os<;>rfl
theorem Pk{all:Nat}(Y:all<=15)(rest:GM):∀(os:List Off) (row:List (Nat×Nat)) (met:Nat),kO os->jy os->
  (bP (aU all rest) os row met).map ac=match fX os row met with
   |none=>[]
   |some x=>(aU all rest x.2 x.1).map ac
 |os,[],met,_,_=>by rw[c9,DT]
 |[],_::_,_,_,_=>rfl
 |o::os,(m,g)::r,met,U,T=>by
  have O:o.mj=false:=U o df;simp only[bP,O,oN,gA,vn,fX];by_cases h:o.tk.getD m 0=0
  .rw[ag h,ag (.inl h)];rfl
  rw[ae h];have N:ac ∘ Path.take (o.tk.getD m 0) (o.pr.getD m 0)=ac:=by
   funext p;have:=T o df m;simp only[Function.comp,ac,Path.take,this,wL]
  rw[cf,N];by_cases Q:16<=bQ met g o.we
  .rw[ag (.inr Q),mK _ all (r8 all rest) os r _ ao];rfl
  rw[ae (by rintro(q|q);exact h q;exact Q q)]
  exact Pk Y rest os r _ (λx M=>U x (cF _ M)) T.tail
theorem Lk:∀(os:List Off) (row:List (Nat×Nat)) (met:Nat) (x:List Off×Nat),fX os row met=some x->∃pre,os=pre++x.1
 |os,[],met,x,h=>by rw[DT]at h;cases h;exact⟨[],rfl⟩
 |[],_::_,_,_,h=>by simp[fX]at h
 |o::os,(m,g)::r,met,x,h=>by
  simp only[fX]at h;split at h
  .simp at h
  obtain⟨pre,e⟩:=Lk os r _ x h;exact⟨o::pre,by rw[e];rfl⟩
def pF(all:Nat)(gm:GM)(met:Nat)(os:List Off):List (List Nat×Nat):=(aU all gm met os).map ac
def mz(all:Nat)(rest:GM)(os:List Off)(met:Nat)(w:dh)(i:Nat):List (List Nat×Nat):=match fX os w.2 met with
 |none=>[]
 |some x=>(pF all rest x.2 x.1).map λy=>(i::y.1,w.1+y.2)
theorem KZ{all:Nat}(Y:all<=15)(ways:List dh)(rest:GM)(met:Nat)(os:List Off)(U:kO os)(T:jy os) :
  pF all (ways::rest) met os=ways.zipIdx.flatMap λw=>mz all rest os met w.1 w.2:=by
 simp only[pF,aU,HX];apply ki;intro w _;have e:ac ∘ Path.alt w.2 w.1.1=(λx:List Nat×Nat=>(w.2::x.1,w.1.1+x.2)) ∘ ac:=by funext p;rfl
 rw[cf,e,<-cf,Pk Y rest os _ met U T];unfold mz;cases fX os w.1.2 met with
 |none=>rfl
 |some x=>rfl
theorem Mj{all:Nat}(U:all<=15):∀(gm:GM) (met:Nat) (os:List Off),kO os->jy os->(pF all gm met os).Pairwise λa b=>less a.1 b.1=true
 |[],met,os,_,_=>by
  simp only[pF,aU];split<;>simp
 |ways::rest,met,os,G,E=>by
  rw[KZ U ways rest met os G E];have T:∀(w:dh) (i:Nat),(mz all rest os met w i).Pairwise λa b=>less a.1 b.1=true:=by
   intro w i;unfold mz;cases O:fX os w.2 met with
   |none=>exact List.Pairwise.nil
   |some x =>
    obtain⟨pre,e⟩:=Lk _ _ _ _ O;have N:kO x.1:=λo M=>G o (by rw[e];exact um _ M)
    have L:jy x.1:=λo M=>E o (by rw[e];exact um _ M)
    have J:=Mj U rest x.2 x.1 N L;show((pF all rest x.2 x.1).map λy=>(i::y.1,w.1+y.2)).Pairwise _;rw[Nr];refine J.imp λ{a b} h=>?_;simp[less,h]
  have Y:∀(w:dh) (i:Nat),∀y∈mz all rest os met w i,∃r,y.1=i::r:=by
   intro w i y Q;unfold mz at Q;cases O:fX os w.2 met with
   |none=>rw[O]at Q;simp at Q
   |some x =>
    rw[O]at Q;obtain⟨z,_,rfl⟩:=bS.mp Q;exact⟨z.1,rfl⟩
  have go:∀(l:List dh) (n:Nat),((l.zipIdx n).flatMap λw=>mz all rest os met w.1 w.2).Pairwise λa b=>less a.1 b.1=true:=by
   intro l
   induction l with
   |nil=>intro n;exact List.Pairwise.nil
   |cons w l J =>
    intro n;rw[Jk,kb,List.pairwise_append];refine⟨T w n,J (n+1),λa D b I=>?_⟩;obtain⟨r,C⟩:=Y w n a D;obtain⟨z,hz,I⟩:=G3.mp I;obtain⟨B,H⟩:=Y z.1 z.2 b I;have:n+1<=z.2:=(lH (d:=w) hz).1;rw[C,H];simp only[less,CA,dI];left;lia
  exact go ways 0
section
structure eC(l:Line):Prop where
 n1:1<=l.length
 lS:l.length<=24
 each:∀s∈l,1<=s.weight/\s.weight<=3/\s.join<=2
 iK:(l.filter λs=>s.join==2).length<=6
 last:∃s,l.getLast?=some s/\s.join=0
theorem eC.of{l:Line}(h:Sw66.lineOk l=true):eC l:=by
 unfold Sw66.lineOk Sw66.SYLLS Sw66.MAYS at h;simp only[gN,jV]at h;simp only[dI]at h;obtain⟨T,Q,O,N,Y⟩:=h;refine⟨T,Q,λs M=>?_,N,?_⟩
 .obtain⟨⟨a,b⟩,c⟩:=O s M;exact⟨a,b,c⟩
 cases U:l.getLast? with
 |none=>rw[U]at Y;cases Y
 |some s=>rw[U]at Y;exact⟨s,rfl,by simpa using Y⟩
def du(w m:Nat):Nat:=if m=3 then w else if w=m\/w=3 then m else 0
def jA(Y:Bool)(w m:Nat):Nat:=if Y=true/\du w m=0 then m else du w m
def qI(Y:Bool)(w m:Nat):Nat:=if Y=true/\du w m=0 then 1 else 0
def b9(Y:Bool)(s:Syll):Off:=
 ⟨decide (0<s.join),if s.join=1 then[0,0,0,0]else[0,jA Y s.weight 1,jA Y s.weight 2,jA Y s.weight 3],
  if s.join=1 then[0,0,0,0]else[0,qI Y s.weight 1,qI Y s.weight 2,qI Y s.weight 3],s.ends⟩
def vI(m:Nat)(s:Syll):Nat:=if (Sw66.taken m s).isNone=true then 1 else 0
theorem GP{m:Nat}(Y:1<=m)(U:m<=3):m=1\/m=2\/m=3:=by lia
theorem lX(m:Nat)(s:Syll)(U:1<=m)(T:1<=s.weight):Sw66.taken m s=if du s.weight m=0 then none else some (du s.weight m):=by
 unfold Sw66.taken du;by_cases h:m=3
 .rw[ag h,ag h,ae ao]
 rw[ae h,ae h];by_cases Y:s.weight=m\/s.weight=3
 .rw[ag Y,ag Y,ae ao]
 rw[ae Y,ae Y,ag rfl]
theorem U3{s:Syll}(h:1<=s.weight):Al Sw66.taken (λ_ _=>0) s (b9 false s):=by
 refine⟨?_,rfl,λm U Q O=>?_,λm v U Q T Y=>?_⟩
 .simp only[b9,dI];lia
 .by_cases T:s.join=1
  .simp only[b9,ag T];rcases GP U Q with rfl|rfl|rfl<;>rfl
  have Y:=O.resolve_left T;rw[lX m s U h]at Y;have N:du s.weight m=0:=by
   by_cases q:du s.weight m=0
   .exact q
   rw[ae q]at Y;cases Y
  simp only[b9,ae T];rcases GP U Q with rfl|rfl|rfl<;>simp[jA,N]
 rw[lX m s U h]at Y;by_cases q:du s.weight m=0
 .rw[ag q]at Y;cases Y
 rw[ae q]at Y;cases Y;refine⟨q,?_,?_⟩
 .simp only[b9,ae T];rcases GP U Q with rfl|rfl|rfl<;>simp[jA]
 simp only[b9,ae T];rcases GP U Q with rfl|rfl|rfl<;>simp[qI]
theorem UQ{s:Syll}(h:1<=s.weight):Al Sw66.forced vI s (b9 true s):=by
 refine⟨?_,rfl,λm U O L=>?_,λm v U O T Y=>?_⟩
 .simp only[b9,dI];lia
 .by_cases T:s.join=1
  .simp only[b9,ag T];rcases GP U O with rfl|rfl|rfl<;>rfl
  have Y:=L.resolve_left T;unfold Sw66.forced at Y;split at Y<;>cases Y
 have Q:v=jA true s.weight m/\v≠0:=by
  unfold Sw66.forced at Y;unfold jA du;by_cases e:m=3
  .rw[ag e]at Y;cases Y;simp only[ag e];rw[ae ao];exact⟨rfl,ao⟩
  rw[ae e]at Y;cases Y;simp only[ae e];by_cases M:s.weight=m\/s.weight=3
  .rw[ag M,ae ao];exact⟨rfl,ao⟩
  rw[ae M,ag aP];exact⟨rfl,ao⟩
 have N:qI true s.weight m=vI m s:=by
  unfold qI vI;rw[lX m s U h];by_cases q:du s.weight m=0
  .rw[ag ⟨rfl,q⟩,ag q];rfl
  rw[ae (λz=>q z.2),ae q];rfl
 refine⟨Q.2,?_,?_⟩
 .rw[Q.1];simp only[b9,ae T];rcases GP U O with rfl|rfl|rfl<;>rfl
 rw[<-N];simp only[b9,ae T];rcases GP U O with rfl|rfl|rfl<;>rfl
def aT(M:Metre)(wc:Bool):GM:=fR (gF M) wc 0 M.places
def bg(Y:Bool)(l:Line):List Off:=l.map (b9 Y)
def PP(M:Metre)(wc:Bool)(l:Line):List Path:=aU (cutsOf M).1 (aT M wc) 0 (bg false l)
def PM(M:Metre)(l:Line):List Path:=aU (cutsOf M).1 (aT M false) 0 (bg true l)
def L0(M:Metre)(l:Line):List Scan:=(Sw66.through Sw66.taken M.places l).filter λx=>M.cuts.all (Sw66.cutOk M l x)
def Je(M:Metre)(wc:Bool)(x:Scan):Path:=⟨x.marks,x.alts,dw wc M.places x.alts⟩
theorem Va(m:Nat)(s:Syll)(v:Nat)(Y:1<=m)(U:1<=s.weight)(h:Sw66.taken m s=some v):v≠0:=by
 rw[lX m s Y U]at h;split at h
 .cases h
 cases h;assumption
theorem Uz(m:Nat)(s:Syll)(v:Nat)(Y:1<=m)(U:1<=s.weight)(h:Sw66.forced m s=some v):v≠0:=by
 unfold Sw66.forced at h;split at h<;>cases h<;>lia
theorem zY{M:Metre}(U:fz M){l:Line}(T:eC l)(wc:Bool):PP M wc l=(L0 M l).map (Je M wc):=by
 unfold PP aT bg L0;rw[ux Sw66.taken Va (λ_ _=>0) (b9 false) (gF M) wc _ M.places 0 l 0 (λs Q=>⟨U3 (T.each s Q).1,(T.each s Q).1⟩) (λO N w Y m L=>(U.alt O N w Y).2.2 m L)];have J:∀(a:Line) (b:List Nat),fQ (λ_ _=>0) a b=0:=by
  intro a
  induction a with
  |nil=>intro b;rfl
  |cons s a I=>intro b;cases b<;>simp[fQ,I]
 have e:(Sw66.through Sw66.taken M.places l).filter (λx=>decide ((0 ||| gR (gF M) 0 M.places l x)=(cutsOf M).1))=(Sw66.through Sw66.taken M.places l).filter λx=>M.cuts.all (Sw66.cutOk M l x):=by
  apply ni;intro x _;rw[lU,dI,Nat.zero_or,Qv U]
 rw[e];apply kZ;intro x _;simp[CD,Je,J]
theorem lZ(M:Metre)(l:Line):(Sw66.scans M l).Pairwise Le/\(Sw66.scans M l).Perm (L0 M l):=by
 have:=Sn (L0 M l) [] List.Pairwise.nil;rw[iN]at this;exact this
theorem Dr{M:Metre}(Y:fz M){l:Line}(U:eC l)(wc:Bool):(Sw66.scans M l).length=(PP M wc l).length:=by
 rw[zY Y U wc,bG,(lZ M l).2.length_eq]
theorem aaF(all:Nat):∀(gm:GM) (met:Nat) (os:List Off),∀p∈aU all gm met os,∀(i v:Nat),p.marks[i]?=some v->v=0\/∃o m,os[i]?=some o/\o.tk.getD m 0=v:=by
 intro gm
 induction gm with
 |nil =>
  intro met os p h i v Y;simp only[aU]at h;split at h
  .simp at h;subst h;simp at Y
  simp at h
 |cons ways gm L =>
  intro met os p h;simp only[aU,G3]at h;obtain⟨w,_,h⟩:=h;obtain⟨q,U,rfl⟩:=bS.mp h;have:∀(os:List Off) (row:List (Nat×Nat)) (met:Nat),∀p∈bP (aU all gm) os row met,∀(i v:Nat),p.marks[i]?=some v->v=0\/∃o m,os[i]?=some o/\o.tk.getD m 0=v:=by
   intro os
   induction os with
   |nil =>
    intro row met p h i v J;cases row with
    |nil=>rw[c9]at h;exact L _ _ p h i v J
    |cons=>simp[bP]at h
   |cons o os T =>
    intro row met p h i v Y;cases row with
    |nil=>rw[c9]at h;exact L _ _ p h i v Y
    |cons m r =>
     obtain⟨m,g⟩:=m;simp only[bP,lV]at h;rcases h with h|h
     .split at h
      .obtain⟨q,U,rfl⟩:=bS.mp h;cases i with
       |zero=>simp[Path.skip]at Y;exact .inl Y.symm
       |succ i =>
        rcases T _ _ q U i v (by simpa[Path.skip]using Y)with e|⟨Q,O,N,M⟩
        .exact .inl e
        exact .inr ⟨Q,O,by simpa using N,M⟩
      simp at h
     split at h
     .simp at h
     obtain⟨q,U,rfl⟩:=bS.mp h;cases i with
     |zero =>
      simp only[Path.take,KW,gY]at Y;exact .inr ⟨o,m,by simp,Y⟩
     |succ i =>
      rcases T _ _ q U i v (by simpa[Path.take]using Y)with e|⟨Q,O,N,M⟩
      .exact .inl e
      exact .inr ⟨Q,O,by simpa using N,M⟩
  exact this os _ _ q U
theorem abu{s:Syll}(h:s.weight<=3)(m:Nat):(b9 false s).tk.getD m 0<=3:=by
 have Y:∀m,m<=3->jA false s.weight m<=3:=λm U=>by
  unfold jA du;rw[ae aP];split
  .exact h
  split<;>lia
 simp only[b9];split
 .match m with
  |0=>simp
  |1=>simp
  |2=>simp
  |3=>simp
  |m+4=>simp
 match m with
 |0=>simp
 |1=>exact Y 1 ao
 |2=>exact Y 2 ao
 |3=>exact Y 3 ao
 |m+4=>simp
theorem vo(l:Line):jy (bg false l):=by
 intro o Y m;obtain⟨s,_,rfl⟩:=bS.mp Y;simp only[b9,qI,oN,false_and,gA];split <;>
 match m with
 |0=>rfl
 |1=>rfl
 |2=>rfl
 |3=>rfl
 |m+4=>rfl
section
variable{M:Metre}{l:Line}{wc:Bool}
theorem dM(G:fz M)(Q:eC l){x:Scan}(E:x∈Sw66.scans M l):x.marks.length=l.length/\x.alts.length=M.places.length/\(∀(i v:Nat),x.marks[i]?=some v->v<=3)/\mG (bg false l) x.marks:=by
 have O:x∈L0 M l:=(lZ M l).2.mem_iff.mp E;have T:Je M false x∈PP M false l:=by rw[zY G Q];exact bS.mpr ⟨x,O,rfl⟩
 have N:=xG _ _ _ _ _ T;have J:=Uk _ _ _ _ _ T;have I:=aaF _ _ _ _ _ T;have L:=Z0 _ _ _ _ _ T;simp only[Je,bg,bG]at N J I L;have D:∀(ps:List (List Alt)) (p:Nat),(fR (gF M) false p ps).length=ps.length:=by
  intro ps
  induction ps with
  |nil=>intro p;rfl
  |cons a ps C=>intro p;simp[fR,C]
 have H:x.marks.length=l.length:=N;refine⟨H,by rw[J];exact D _ _,λi v B=>?_,⟨by simpa[bg]using N,λi o a b=>L i o (by simpa[bg]using a) b,?_⟩⟩
 .rcases I i v B with e|⟨o,m,U,A⟩
  .lia
  rw[cM]at U;cases Y:l[i]? with
  |none=>rw[Y]at U;cases U
  |some s =>
   rw[Y]at U;cases U;rw[<-A];exact abu (Q.each s (cI Y)).2.1 m
 intro e;obtain⟨s,Y,z⟩:=Q.last;rw[T8]at Y e;rw[H]at e;have:=L (l.length - 1) (b9 false s) (by rw[cM,Y];rfl) e
 simp only[b9,dI]at this;lia
def TL(M:Metre)(wc:Bool)(c:Nat)(l:Line):List Scan:=(Sw66.scans M l).filter λx=>dw wc M.places x.alts==c
def AM(M:Metre)(wc:Bool)(c:Nat)(l:Line)(j:Nat)(Y:List Nat):List Scan:=(TL M wc c l).filter λx=>x.marks.take j==Y
theorem KR(Y:fz M)(U:eC l){c:Nat}(T:∀p∈PP M wc l,c<=p.cost)(Q:List Nat->Bool) :
  fB c (S ((PP M wc l).filter λp=>Q p.marks))=((TL M wc c l).filter λx=>Q x.marks).length:=by
 unfold S;rw[Ju (λx O=>by
  obtain⟨p,N,rfl⟩:=bS.mp O;exact T p (g6.mp N).1)]
 rw[zY Y U];have L:(((L0 M l).map (Je M wc)).filter λp=>Q p.marks).map (·.cost)=((L0 M l).filter λx=>Q x.marks).map λx=>dw wc M.places x.alts:=by
  rw[ra,cf];rfl
 rw[L,Ul,Nh,SY];have J:=((lZ M l).2.filter λx=>Q x.marks).filter λx=>dw wc M.places x.alts==c;have I:=J.length_eq;unfold TL;have H:(((Sw66.scans M l).filter λx=>dw wc M.places x.alts==c).filter λx=>Q x.marks)=((Sw66.scans M l).filter λx=>Q x.marks).filter λx=>dw wc M.places x.alts==c:=by
  rw[GS,GS];exact ni λa _=>Bool.and_comm _ _
 rw[H,I];rfl
theorem Sb{c:Nat}:AM M wc c l 0 []=TL M wc c l:=by
 unfold AM;rw[ub];intro x _;simp
theorem RC(Q:fz M)(O:eC l){c j:Nat}{ms:List Nat}(m:j<l.length)(L:ms.length=j):AM M wc c l j ms=(List.range 4).flatMap λv=>AM M wc c l (j+1) (ms++[v]):=by
 have Y:∀x∈AM M wc c l j ms,x∈Sw66.scans M l/\x.marks.take j=ms:=λx J=>by
  have N:=g6.mp J;exact⟨(g6.mp N.1).1,by simpa using N.2⟩
 have N:(AM M wc c l j ms).Pairwise λa b=>a.marks.getD j 0<=b.marks.getD j 0:=by
  have G:(AM M wc c l j ms).Pairwise Le:=((lZ M l).1.filter _).filter _;refine G.imp_of_mem λ{a b} I E U=>?_;obtain⟨H,D⟩:=Y a I;obtain⟨C,B⟩:=Y b E;have A:=(dM Q O H).1;have z:=(dM Q O C).1;apply IC;intro i;have e:∀x:Scan,x.marks.length=l.length->x.marks.take j=ms->x.row=ms++(x.marks.getD j 0::(x.marks.drop (j+1)++x.alts)):=λx y u=>by
   unfold Scan.row;have s:x.marks=ms++(x.marks.getD j 0::x.marks.drop (j+1)):=by
    rw[dU,cu (show j<x.marks.length by lia),uC,<-xI,<-u,Td]
   conv=>lhs;rw[s]
   simp
  unfold Le at U;rw[e a A D,e b z B,yi]at U;simp only[less,ZC,T5]at U;lia
 have r:∀a∈AM M wc c l j ms,a.marks.getD j 0<4:=λa I=>by
  obtain⟨H,_⟩:=Y a I;obtain⟨g,_,q,_⟩:=dM Q O H;have:=q j (a.marks.getD j 0) (by rw[dU,cu (show j<a.marks.length by lia)];rfl)
  lia
 refine(Qb (λa:Scan=>a.marks.getD j 0) 4 _ N r).trans ?_;apply ki;intro v _;unfold AM;rw[GS];apply ni;intro x J;have y:=(dM Q O (g6.mp J).1).1;have T:j<x.marks.length:=by lia
 rw[Ke T];have p:x.marks.getD j 0=x.marks[j]:=by rw[dU,cu T];rfl
 rw[p,lU,gN,lK,lK,lK];constructor
 .rintro⟨o,n⟩;rw[o,n]
 intro e;have:=List.append_inj e (by simp[L];lia)
 exact⟨by simpa using this.2,this.1⟩
theorem RL(Q:fz M)(J:eC l){c:Nat}{ms:List Nat}(B:AM M wc c l l.length ms≠[]) :
  (AM M wc c l l.length ms).map (·.alts)=((pF (cutsOf M).1 (aT M wc) 0 (pins (bg false l) ms)).filter λy=>y.2==c).map (·.1):=by
 have Y:∀x∈AM M wc c l l.length ms,x∈Sw66.scans M l/\x.marks=ms:=λx I=>by
  have D:=g6.mp I;have C:=(g6.mp D.1).1;have h3:=(dM Q J C).1;have q:=beq_iff_eq.mp D.2;rw[CJ ao]at q;exact⟨C,q⟩
 obtain⟨n,A⟩:=YM _ B;have z:mG (bg false l) ms:=by
  obtain⟨a,b⟩:=Y n A;rw[<-b];exact(dM Q J a).2.2.2
 have H:∀(os:List Off) (ms:List Nat),kO (pins os ms):=by
  intro os
  induction os with
  |nil=>intro ms o O;simp[pins]at O
  |cons o os G =>
   intro ms;cases ms with
   |nil=>intro o O;simp[pins]at O
   |cons v ms =>
    simp only[pins];split
    .exact G ms
    rename_i s;intro r N;rcases b0.mp N with rfl|h
    .simp[jg,s]
    exact G ms r h
 have E:∀(os:List Off) (ms:List Nat),jy os->jy (pins os ms):=by
  intro os
  induction os with
  |nil=>intro ms _ o O;simp[pins]at O
  |cons o os G =>
   intro ms h;cases ms with
   |nil=>intro o O;simp[pins]at O
   |cons v ms =>
    simp only[pins];split
    .exact G ms h.tail
    intro r N;rcases b0.mp N with rfl|m
    .exact h o df
    exact G ms h.tail r m
 have j:=C8 (cutsOf M).1 (aT M wc) 0 (bg false l) ms z (vo l);have e0:(pF (cutsOf M).1 (aT M wc) 0 (pins (bg false l) ms))=((PP M wc l).filter λp=>p.marks==ms).map ac:=j.symm;have U:(((pF (cutsOf M).1 (aT M wc) 0 (pins (bg false l) ms)).filter λy=>y.2==c).map (·.1)).Pairwise λa b=>less b a=false:=by
  rw[Nr];exact((Mj (HH Q) _ _ _ (H _ _) (E _ _ (vo l))).filter _).imp λh=>JW h
 have T:((AM M wc c l l.length ms).map (·.alts)).Pairwise λa b=>less b a=false:=by
  rw[Nr];have i:(AM M wc c l l.length ms).Pairwise Le:=((lZ M l).1.filter _).filter _;refine i.imp_of_mem λ{a b} g e L=>?_;have d:=(Y a g).2;have b2:=(Y b e).2;unfold Le Scan.row at L;rw[d,b2,yi]at L;exact L
 refine zP ?_ T U λu hu v s D C=>?_
 .rw[e0,zY Q J];have e1:((((L0 M l).map (Je M wc)).filter λp=>p.marks==ms).map ac).filter (λy=>y.2==c)=(((L0 M l).filter λx=>x.marks==ms).filter λx=>dw wc M.places x.alts==c).map λx=>(x.alts,dw wc M.places x.alts):=by
   rw[ra (f:=Je M wc),cf,ra];rfl
  rw[e1,cf];have p1:=(((lZ M l).2.filter λx=>dw wc M.places x.alts==c).filter λx=>x.marks==ms).map (λx:Scan=>x.alts);have e2:AM M wc c l l.length ms=((Sw66.scans M l).filter λx=>dw wc M.places x.alts==c).filter λx=>x.marks==ms:=by
   unfold AM TL;apply ni;intro x I;have:=(dM Q J (g6.mp I).1).1;rw[CJ ao]
  rw[e2];refine p1.trans ?_;rw[GS,GS];rw[show((L0 M l).filter λa=>(a.marks==ms)&&(dw wc M.places a.alts==c))=(L0 M l).filter λa=>(dw wc M.places a.alts==c)&&(a.marks==ms)from ni λa _=>Bool.and_comm _ _];exact M5 _
 obtain⟨x,I,rfl⟩:=bS.mp hu;obtain⟨y,hy,rfl⟩:=bS.mp s;have lx:=(dM Q J (Y x I).1).2.1;have ly:=(dM Q J (Y y hy).1).2.1;exact Jc (by rw[lx,ly]) C D
end
end
def oU:List Off->(Nat->Nat)->Nat
 |[],φ=>φ 0
 |o::os,φ=>φ 0+if o.mj=true then oU os λj=>φ (j+1)else 0
def fY(os:List Off)(φ:Nat->Nat)(i:Nat):Nat:=oU (os.drop i) λj=>φ (i+j)
theorem HJ{os:List Off}{φ:Nat->Nat}{i:Nat}{o:Off}(h:os[i]?=some o):fY os φ i=φ i+if o.mj=true then fY os φ (i+1)else 0:=by
 have Y:=(dE.mp h).1;have e:os.drop i=o::os.drop (i+1):=by
  rw[xI Y];congr 1;rw[cu Y]at h;exact cp h
 unfold fY;rw[e,oU,C7];congr 1;split
 .congr 1;funext j;congr 1;lia
 rfl
theorem LS{os:List Off}{φ:Nat->Nat}{i:Nat}(h:os.length<=i):fY os φ i=φ i:=by
 unfold fY;rw[TY h];rfl
theorem Yx(φ ψ:Nat->Nat):∀os:List Off,oU os (λj=>φ j+ψ j)=oU os φ+oU os ψ:=by
 intro os
 induction os generalizing φ ψ with
 |nil=>rfl
 |cons o os Y =>
  simp only[oU];split
  .rw[Y (λj=>φ (j+1)) (λj=>ψ (j+1))];lia
  lia
theorem Mb:∀os:List Off,oU os (λ_=>0)=0
 |[]=>rfl
 |o::os=>by simp only[oU,Mb os];split<;>rfl
theorem Mc{α:Type}(os:List Off)(f:α->Nat->Nat)(i:Nat):∀l:List α,fY os (λj=>(l.map λw=>f w j).sum) i=(l.map λw=>fY os (f w) i).sum
 |[]=>by simp only[fY,qC,Tq];exact Mb _
 |w::l=>by
  simp only[bM,js];rw[<-Mc os f i l];unfold fY;rw[<-Yx]
def fN(k:Nat->Nat->Nat)(os:List Off):List (Nat×Nat)->Nat->Nat->Nat
 |[],met,i=>k met i
 |(m,g)::r,met,i=>match os[i]? with
  |none=>0
  |some o=>if o.tk.getD m 0=0 then 0 else fY os (fN k os r (bQ met g o.we)) (i+1)
def bK(all:Nat)(os:List Off):GM->Nat->Nat->Nat
 |[],met,i=>if i=os.length/\met=all then 1 else 0
 |ways::rest,met,i=>(ways.map λw=>fN (bK all os rest) os w.2 met i).sum
def pO(os:List Off):Prop:=∀o,os.getLast?=some o->o.mj=false
theorem AJ{all:Nat}{os:List Off}{rest:GM}(T:∀(met i:Nat),i<=os.length->fY os (bK all os rest met) i=(aU all rest met (os.drop i)).length) :
  ∀(row:List (Nat×Nat)) (met:Nat) (d i:Nat),d=os.length - i->i<=os.length->fY os (fN (bK all os rest) os row met) i=(bP (aU all rest) (os.drop i) row met).length
 |[],met,d,i,_,Q=>by
  rw[c9,<-T met i Q];rfl
 |(m,g)::r,met,0,i,hd,Q=>by
  have:i=os.length:=by lia
  subst this;rw[LS (bD _),Gk];simp[fN,bP]
 |(m,g)::r,met,d+1,i,hd,Q=>by
  have Y:i<os.length:=by lia
  obtain⟨o,U⟩:∃o,os[i]?=some o:=⟨_,cu Y⟩;have e:os.drop i=o::os.drop (i+1):=by
   rw[xI Y];congr 1;rw[cu Y]at U;exact cp U
  rw[HJ U,e,bP,ee];have O:=AJ T ((m,g)::r) met d (i+1) ao Y;have N:=AJ T r (bQ met g o.we) d (i+1) ao Y;rw[O];have M:fN (bK all os rest) os ((m,g)::r) met i=if o.tk.getD m 0=0 then 0 else fY os (fN (bK all os rest) os r (bQ met g o.we)) (i+1):=by
   simp only[fN,U]
  rw[M,N,zU];congr 1
  .split<;>simp
  split<;>simp
theorem Dn{all:Nat}{os:List Off}(Y:pO os):∀(rest:GM) (met i:Nat),i<=os.length->fY os (bK all os rest met) i=(aU all rest met (os.drop i)).length
 |[],met,i,U=>by
  have Q:∀(d i:Nat),d=os.length - i->i<=os.length->fY os (bK all os [] met) i=if i=os.length/\met=all then 1 else 0:=by
   intro d
   induction d with
   |zero =>
    intro i hd U;have:i=os.length:=by lia
    subst this;rw[LS (bD _)];rfl
   |succ d O =>
    intro i hd U;have T:i<os.length:=by lia
    obtain⟨o,M⟩:∃o,os[i]?=some o:=⟨_,cu T⟩;rw[HJ M,O (i+1) ao T];have L:bK all os [] met i=0:=by simp only[bK];rw[ae ao]
    rw[L,ae (show ¬(i=os.length/\met=all)by lia)]
    by_cases N:o.mj=true
    .rw[ag N];have:i+1≠os.length:=λq=>by
      have:=Y o (by rw[T8,show os.length - 1=i by lia];exact M)
      rw[N]at this;cases this
     rw[ae (λq=>this q.1)]
    rw[ae N]
  rw[Q _ i rfl U];simp only[aU];by_cases h:i=os.length
  .subst h;simp only[Gk,NT,true_and];split<;>rfl
  have:(os.drop i).isEmpty=false:=by
   cases hd:os.drop i with
   |nil=>have:=ZN.mp hd;lia
   |cons=>rfl
  rw[ae (λq=>h q.1),ae (by rw[this];simp)];rfl
 |ways::rest,met,i,U=>by
  have J:=Dn (all:=all) Y rest;have e:bK all os (ways::rest) met=λi=>(ways.map λw=>fN (bK all os rest) os w.2 met i).sum:=rfl;rw[e,Mc];simp only[aU];rw[fw];have:∀(l:List dh) (n:Nat),((l.zipIdx n).map λy=>((bP (aU all rest) (os.drop i) y.1.2 met).map (Path.alt y.2 y.1.1)).length)=l.map λw=>fY os (fN (bK all os rest) os w.2 met) i:=by
   intro l
   induction l with
   |nil=>intro n;rfl
   |cons w l O=>intro n;rw[Jk,bM,O,bG,bM,AJ J w.2 met _ i rfl U]
  rw[this]
theorem Tc{all:Nat}{os:List Off}(rest:GM)(row:List (Nat×Nat)){met:Nat}(i:Nat)(Y:pO os)(h:all<met)(U:i<=os.length):fY os (fN (bK all os rest) os row met) i=0:=by
 rw[AJ (Dn Y rest) row met _ i rfl U,mK _ all (r8 all rest) _ _ _ h];rfl
def pack:List Nat->Nat
 |[]=>0
 |a::v=>a+1048576*pack v
def maskOf:List Bool->Nat
 |[]=>0
 |t::ts=>(if t=true then 1048575 else 0)+1048576*maskOf ts
def wN(ts:List Bool)(v:List Nat):List Nat:=List.zipWith (λt x=>if t=true then x else 0) ts v
def ik(ts:List Bool)(v:List Nat):List Nat:=0::wN ts v
def Small(v:List Nat):Prop:=∀x∈v,x<1048576
theorem Uh(v:List Nat):pack (0::v)=pack v <<< 20:=by
 simp only[pack,Nat.shiftLeft_eq,wL];rw[xD]
theorem L4(a b c d:Nat)(U:a<1048576)(T:c<1048576):(a+1048576*b) &&& (c+1048576*d)=(a &&& c)+1048576*(b &&& d):=by
 apply T9;intro i;have e:∀x y:Nat,x+1048576*y=2 ^ 20*y+x:=λx y=>by rw[zU]
 have Y:a &&& c<2 ^ 20:=d8 Nat.and_le_left U;rw[e,e,e,NQ,Ua _ (show a<2 ^ 20 from U),Ua _ (show c<2 ^ 20 from T),Ua _ Y];split
 .rw[NQ]
 rw[NQ]
theorem O0:∀(ts:List Bool) (v:List Nat),Small v->pack v &&& maskOf ts=pack (wN ts v)
 |[],v,_=>by simp[maskOf,wN,pack]
 |_::_,[],_=>by simp[pack,wN]
 |t::ts,a::v,h=>by
  have Y:a<1048576:=h a df;have U:=O0 ts v λx T=>h x (cF _ T);simp only[pack,maskOf,wN,NR];rw[L4 _ _ _ _ Y (by split<;>lia),U]
  congr 1;cases t with
  |true =>
   simp only[dB];rw[show(1048575:Nat)=2 ^ 20 - 1 by rfl,Nat.and_two_pow_sub_one_eq_mod]
   exact Nat.mod_eq_of_lt Y
  |false=>simp
theorem G2:∀(a b:List Nat),a.length=b.length->pack (List.zipWith (·+·) a b)=pack a+pack b
 |[],[],_=>rfl
 |[],_::_,h=>by simp at h
 |_::_,[],h=>by simp at h
 |x::a,y::b,h=>by
  simp only[NR,pack];rw[G2 a b (by simpa using h)]
  lia
theorem SD:∀(v:List Nat),Small v->pack v<1048576 ^ v.length
 |[],_=>by simp[pack]
 |a::v,h=>by
  have Y:=SD v λx U=>h x (cF _ U);have T:a<1048576:=h a df;simp only[pack,cT,yp];have:pack v+1<=1048576 ^ v.length:=Y;have:=O1 1048576 this;rw[xD (1048576 ^ v.length)];lia
theorem L5:∀(v:List Nat) (n:Nat),Small v->v.length=n+1->pack v >>> (20*n)=v.getD n 0
 |[],_,_,h=>by simp at h
 |[a],0,h,_=>by simp[pack]
 |[a],n+1,_,h=>by simp at h
 |a::b::v,0,_,h=>by simp at h
 |a::b::v,n+1,h,Y=>by
  have Q:a<1048576:=h a df;have U:=L5 (b::v) n (λx T=>h x (cF _ T)) (by simpa using Y)
  have e:pack (a::b::v) >>> (20*(n+1))=pack (b::v) >>> (20*n):=by
   rw[show 20*(n+1)=20+20*n by lia,Nat.shiftRight_add]
   congr 1;rw[Zn];simp only[pack];lia
  rw[e,U];simp
theorem sU:∀(v:List Nat),pack v=0↔∀x∈v,x=0
 |[]=>by simp[pack]
 |a::v=>by
  simp only[pack,b0,forall_eq_or_imp];rw[<-sU v];lia
def dot:List Nat->(Nat->Nat)->Nat
 |[],_=>0
 |a::v,φ=>a*φ 0+dot v λj=>φ (j+1)
theorem vW:∀(v:List Nat) (φ:Nat->Nat),(∀x∈v,x=0)->dot v φ=0
 |[],_,_=>rfl
 |a::v,φ,h=>by
  rw[dot,h a df,vW v _ λx Y=>h x (cF _ Y)];lia
theorem EU:∀(a b:List Nat) (φ:Nat->Nat),a.length=b.length->dot (List.zipWith (·+·) a b) φ=dot a φ+dot b φ
 |[],[],_,_=>rfl
 |[],_::_,_,h=>by simp at h
 |_::_,[],_,h=>by simp at h
 |x::a,y::b,φ,h=>by
  simp only[NR,dot];rw[EU a b _ (by simpa using h),TR]
  lia
theorem eJ:∀(v:List Nat) (φ ψ:Nat->Nat),(∀i,i<v.length->φ i=ψ i)->dot v φ=dot v ψ
 |[],_,_,_=>rfl
 |a::v,φ,ψ,h=>by
  rw[dot,dot,h 0 aP,eJ v _ _ λi Y=>h (i+1) (by simpa using Y)]
theorem j8:∀(v:List Nat) (φ ψ:Nat->Nat),dot v (λi=>φ i+ψ i)=dot v φ+dot v ψ
 |[],_,_=>rfl
 |a::v,φ,ψ=>by
  simp only[dot];rw[j8 v (λj=>φ (j+1)) (λj=>ψ (j+1)),NH];lia
theorem RD:∀(ts:List Bool) (v:List Nat) (φ:Nat->Nat),dot (wN ts v) φ=dot v λi=>if ts.getD i false=true then φ i else 0
 |[],v,φ=>by
  have:∀(v:List Nat),dot v (λ_=>0)=0:=λv=>by
   induction v with
   |nil=>rfl
   |cons a v Y=>rw[dot,Y];lia
  simp[wN,dot,this]
 |_::_,[],_=>rfl
 |t::ts,a::v,φ=>by
  simp only[wN,NR,dot];have Y:=RD ts v λj=>φ (j+1);simp only[wN]at Y;rw[Y];congr 1;cases t<;>simp
theorem vg(ts:List Bool)(v:List Nat)(φ:Nat->Nat):dot (ik ts v) φ=dot v λi=>if ts.getD i false=true then φ (i+1)else 0:=by
 unfold ik;rw[dot,Nat.zero_mul,wL,RD]
theorem mQ{ts:List Bool}{v:List Nat}(h:v.length=ts.length+1):(ik ts v).length=ts.length+1:=by
 simp only[ik,wN,cT,List.length_zipWith];lia
def rO(a b:List Nat):List Nat:=List.zipWith (·+·) a b
theorem xT{a b:List Nat}(h:a.length=b.length):(rO a b).length=a.length:=by simp[rO,h]
def kg(ts:List Bool):Nat->List Nat->List Nat->List Nat
 |0,a,_=>a
 |f+1,a,m=>if pack m=0 then a else kg ts f (rO a m) (ik ts m)
def joined(ts:List Bool)(v:List Nat):List Nat:=kg ts (ts.length+1) v (ik ts v)
def dO(ts:List Bool)(φ:Nat->Nat)(i:Nat):Nat:=oU ((ts.drop i).map λb=>⟨b,[],[],false⟩) λj=>φ (i+j)
theorem eV(ts:List Bool)(φ:Nat->Nat)(i:Nat):dO ts φ i=φ i+if ts.getD i false=true then dO ts φ (i+1)else 0:=by
 unfold dO;by_cases Y:i<ts.length
 .rw[xI Y,bM,oU,dU,cu Y,uC,C7];congr 1;split
  .congr 1;funext j;congr 1;lia
  rfl
 rw[TY ao,dU,nz ao];simp[oU]
def G0(k:Nat)(m:List Nat):Prop:=∀i,i<k->m.getD i 0=0
theorem G0.ik{ts:List Bool}{k:Nat}{m:List Nat}(h:G0 k m):G0 (k+1) (ik ts m):=by
 intro i U;cases i with
 |zero=>rfl
 |succ i =>
  have:=h i ao;simp only[VM.ik,dU,Kp,wN,List.getElem?_zipWith]at this ⊢;cases Y:m[i]? with
  |none=>cases ts[i]?<;>simp
  |some x =>
   rw[Y]at this;simp at this;cases ts[i]? with
   |none=>simp
   |some t=>cases t<;>simp[this]
theorem join_loop(ts:List Bool)(φ:Nat->Nat):∀(f:Nat) (a m:List Nat),a.length=ts.length+1->m.length=ts.length+1->G0 (ts.length+1 - f) m->
  dot (kg ts f a m) φ=dot a φ+dot m (dO ts φ)/\(kg ts f a m).length=ts.length+1
 |0,a,m,Y,T,U=>by
  have:∀x∈m,x=0:=λx O=>by
   obtain⟨i,Q,rfl⟩:=NF O;have:=U i ao;rw[dU,cu Q]at this;exact this
  rw[vW m _ this];exact⟨rfl,Y⟩
 |f+1,a,m,Y,T,U=>by
  simp only[kg];split
  .rename_i N;rw[vW m _ ((sU m).mp N)];exact⟨rfl,Y⟩
  have M:(rO a m).length=ts.length+1:=by rw[xT ao];exact Y
  obtain⟨L,J⟩:=join_loop ts φ f (rO a m) (ik ts m) M (mQ T) (by
   intro i Q;exact G0.ik U i ao)
  refine⟨?_,J⟩;rw[L,rO,EU _ _ _ ao,vg];have e:dot m (dO ts φ)=dot m λi=>φ i+if ts.getD i false=true then dO ts φ (i+1)else 0:=eJ _ _ _ λi _=>eV ts φ i
  rw[e,j8];lia
theorem uP(ts:List Bool)(v:List Nat)(φ:Nat->Nat)(Y:v.length=ts.length+1):dot (joined ts v) φ=dot v (dO ts φ)/\(joined ts v).length=ts.length+1:=by
 obtain⟨U,T⟩:=join_loop ts φ (ts.length+1) v (ik ts v) Y (mQ Y) (λi Q=>ao);refine⟨?_,T⟩;unfold joined;rw[U,vg];have e:dot v (dO ts φ)=dot v λi=>φ i+if ts.getD i false=true then dO ts φ (i+1)else 0:=eJ _ _ _ λi _=>eV ts φ i
 rw[e,j8]
section
def cK(j i:Nat):Nat:=if i=j then 1 else 0
theorem EI:∀(v:List Nat) (j:Nat),dot v (cK j)=v.getD j 0
 |[],j=>by simp[dot]
 |a::v,0=>by
  rw[dot];have:dot v (λi=>cK 0 (i+1))=0:=by
   have:∀v:List Nat,dot v (λ_=>0)=0:=λv=>by
    induction v with
    |nil=>rfl
    |cons a v Y=>rw[dot,Y];lia
   rw[eJ v _ (λ_=>0) λi _=>by simp[cK]];exact this v
  rw[this];simp[cK]
 |a::v,j+1=>by
  rw[dot,eJ v _ (cK j) λi _=>by simp[cK]]
  rw[EI v j];simp[cK]
def iK(ts:List Bool)(j:Nat):Nat:=(ts.take j).count true
theorem jr(ts:List Bool)(j:Nat):∀(d i:Nat),d=ts.length - i->j<i->dO ts (cK j) i=0
 |0,i,hd,h=>by
  rw[eV,dU,nz ao];simp[cK];lia
 |d+1,i,hd,h=>by
  rw[eV,jr ts j d (i+1) ao ao];simp[cK];lia
theorem Gg(ts:List Bool)(j:Nat)(U:j<ts.length):∀(d i:Nat),d=ts.length - i->i<=ts.length->dO ts (cK (j+1)) i=cK (j+1) i+if ts.getD j false=true then dO ts (cK j) i else 0
 |0,i,hd,T=>by
  have:i=ts.length:=by lia
  subst this;rw[jr ts j 0 ts.length ao U,eV,dU,nz ao];simp
 |d+1,i,hd,T=>by
  by_cases h:j+1<i
  .rw[jr ts (j+1) (d+1) i hd h,jr ts j (d+1) i hd ao];simp[cK];lia
  by_cases Q:i=j+1
  .subst Q;rw[jr ts j (d+1) (j+1) hd ao,eV,jr ts (j+1) d (j+2) ao ao];simp
  rw[eV ts (cK (j+1)),eV ts (cK j)];have e0:cK (j+1) i=0:=by simp[cK];lia
  rw[e0];by_cases O:i=j
  .subst O;have Y:=Gg ts i U d (i+1) ao ao;rw[jr ts i d (i+1) ao ao]at Y ⊢;rw[Y];simp[cK]
  have Y:=Gg ts j U d (i+1) ao ao;have N:cK (j+1) (i+1)=0:=by simp[cK];lia
  have M:cK j i=0:=by simp[cK];lia
  rw[Y,N,M];by_cases a:ts.getD i false=true<;>by_cases b:ts.getD j false=true
  .simp only[ag a,ag b]
  .simp only[ag a,ae b]
  .simp only[ae a,ag b]
  simp only[ae a,ae b]
theorem VR(ts:List Bool){i:Nat}(h:0<i):dO ts (cK 0) i=0:=jr ts 0 _ i rfl h
theorem WE{ts:List Bool}{j:Nat}(Y:j<ts.length):iK ts (j+1)=iK ts j+if ts.getD j false=true then 1 else 0:=by
 unfold iK;rw[Ke Y,List.count_append,dU,cu Y,uC];cases ts[j]<;>simp
theorem Lb{ts:List Bool}{c:Nat}{X n:Nat->Nat}(U:X 0<=c)(T:∀j,j<ts.length->X (j+1)=n j+if ts.getD j false=true then X j else 0)(Q:∀j,j<ts.length->n j<=c*2 ^ iK ts j):∀j,j<=ts.length->X j<=c*2 ^ iK ts j
 |0,_=>by simp[iK];exact U
 |j+1,Y=>by
  have O:=Lb U T Q j ao;rw[T j Y,WE Y];have:=Q j Y;by_cases h:ts.getD j false=true
  .rw[ag h,ag h,yp];have e:c*(2 ^ iK ts j*2)=c*2 ^ iK ts j+c*2 ^ iK ts j:=by rw[xD (2 ^ iK ts j) 2,<-Eu,xD c 2,Eu];lia
   lia
  rw[ae h,ae h];simpa using this
def tm(ts:List Bool)(v:List Nat):Prop:=v.length=ts.length+1/\∀j,j<=ts.length->dot v (dO ts (cK j))<1048576
theorem Be{ts:List Bool}{a:List Nat}{φ:Nat->Nat}(T:a.length=ts.length+1)(h:∀j,j<=ts.length->a.getD j 0<1048576):Small a:=by
 intro x Y;obtain⟨i,U,rfl⟩:=NF Y;have:=h i ao;rw[dU,cu U]at this;exact this
theorem Ly(ts:List Bool)(j:Nat):1<=dO ts (cK j) j:=by
 rw[eV];simp[cK]
theorem Pz:∀(v:List Nat) (φ:Nat->Nat) (j:Nat),1<=φ j->v.getD j 0<=dot v φ
 |[],_,_,_=>by simp
 |a::v,φ,0,h=>by
  rw[dot];have:a*1<=a*φ 0:=O1 a h;simp;lia
 |a::v,φ,j+1,h=>by
  rw[dot];have:=Pz v (λi=>φ (i+1)) j h;simp only[ZO];lia
theorem tm.small{ts:List Bool}{v:List Nat}(h:tm ts v):Small v:=
 Be (φ:=λ_=>0) h.1 λj Y=>d8 (Pz v _ j (Ly ts j)) (h.2 j Y)
structure wW(ts:List Bool)(v a m:List Nat):Prop where
 la:a.length=ts.length+1
 lm:m.length=ts.length+1
 eq:∀φ,dot a φ+dot m (dO ts φ)=dot v (dO ts φ)
theorem wW.zero{ts:List Bool}{v:List Nat}(Y:v.length=ts.length+1):wW ts v v (ik ts v):=by
 refine⟨Y,mQ Y,λφ=>?_⟩;rw[vg];have e:dot v (dO ts φ)=dot v λi=>φ i+if ts.getD i false=true then dO ts φ (i+1)else 0:=eJ _ _ _ λi _=>eV ts φ i
 rw[e,j8]
theorem wW.next{ts:List Bool}{v a m:List Nat}(h:wW ts v a m):wW ts v (rO a m) (ik ts m):=by
 refine⟨by rw[xT (by rw[h.la,h.lm])];exact h.la,mQ h.lm,λφ=>?_⟩
 rw[<-h.eq φ,rO,EU _ _ _ (by rw[h.la,h.lm]),vg]
 have e:dot m (dO ts φ)=dot m λi=>φ i+if ts.getD i false=true then dO ts φ (i+1)else 0:=eJ _ _ _ λi _=>eV ts φ i
 rw[e,j8];lia
theorem wW.small{ts:List Bool}{v a m:List Nat}(h:wW ts v a m)(U:tm ts v):Small a/\Small m:=by
 constructor
 .refine Be (φ:=λ_=>0) h.la λj Y=>?_;have:=h.eq (cK j);rw[EI]at this;have:=U.2 j Y;lia
 refine Be (φ:=λ_=>0) h.lm λj Y=>?_;have:=h.eq (cK j);have T:=Pz m (dO ts (cK j)) j (Ly ts j);have:=U.2 j Y;lia
abbrev cy:=List (Nat×List Nat)
def md(met:Nat)(v:List Nat):cy->cy
 |[]=>[(met,v)]
 |(k,w)::r=>if k=met then(k,rO w v)::r else(k,w)::md met v r
def iu(met:Nat)(v:List Nat)(L:cy):cy:=if pack v=0 then L else md met v L
def lsum(val:Nat->Nat->Nat)(L:cy):Nat:=(L.map λe=>dot e.2 (val e.1)).sum
def Len(n:Nat)(L:cy):Prop:=∀e∈L,e.2.length=n+1
theorem PX{n met:Nat}{v:List Nat}(T:v.length=n+1):∀{L:cy},Len n L->Len n (md met v L)
 |[],_=>λe Y=>by simp[md]at Y;subst Y;exact T
 |(k,w)::r,h=>λe Y=>by
  have U:=h (k,w) df;have hr:Len n r:=λx Q=>h x (cF _ Q);simp only[md]at Y;split at Y
  .rcases b0.mp Y with rfl|Y
   .simp only[]at U ⊢;rw[xT ao];exact U
   exact hr e Y
  rcases b0.mp Y with rfl|Y
  .exact U
  exact PX T hr e Y
theorem dQ{n met:Nat}{v:List Nat}(Y:v.length=n+1){L:cy}(h:Len n L):Len n (iu met v L):=by
 unfold iu;split
 .exact h
 exact PX Y h
theorem Lz(val:Nat->Nat->Nat){n met:Nat}{v:List Nat}(U:v.length=n+1):∀{L:cy},Len n L->lsum val (md met v L)=lsum val L+dot v (val met)
 |[],_=>by simp[md,lsum]
 |(k,w)::r,h=>by
  have T:=h (k,w) df;have Y:=Lz val (met:=met) U (L:=r) λx Q=>h x (cF _ Q);simp only[md];split
  .rename_i e;subst e;simp only[lsum,bM,js];rw[rO,EU _ _ _ (by simp only[]at T;lia)];lia
  simp only[lsum,bM,js]at Y ⊢;rw[Y];lia
theorem jm(val:Nat->Nat->Nat){n met:Nat}{v:List Nat}(Y:v.length=n+1){L:cy}(h:Len n L):lsum val (iu met v L)=lsum val L+dot v (val met):=by
 unfold iu;split
 .rename_i U;rw[vW v _ ((sU v).mp U)];lia
 exact Lz val Y h
theorem Cs(met:Nat)(v:List Nat):∀L:cy,(md met v L).map (·.1)=if met∈L.map (·.1)then L.map (·.1)else L.map (·.1)++[met]
 |[]=>by simp[md]
 |(j,w)::r=>by
  simp only[md];by_cases Y:j=met
  .subst Y;simp
  rw[ae Y];simp only[bM];rw[Cs met v r];have:(met∈j::r.map (·.1))↔met∈r.map (·.1):=by
   rw[b0];exact⟨λq=>q.resolve_left λe=>Y e.symm,.inr⟩
  by_cases h:met∈r.map (·.1)
  .rw[ag h,ag (this.mpr h)]
  rw[ae h,ae (λq=>h (this.mp q))];rfl
theorem Uo{met:Nat}{v:List Nat}{L:cy}(h:(L.map (·.1)).Nodup):((md met v L).map (·.1)).Nodup:=by
 rw[Cs];split
 .exact h
 rename_i q;rw[Hw];refine⟨h,by simp,λa U b Y=>?_⟩
 simp at Y;subst Y;intro e;subst e;exact q U
theorem km{met:Nat}{v:List Nat}{L:cy}(h:(L.map (·.1)).Nodup):((iu met v L).map (·.1)).Nodup:=by
 unfold iu;split
 .exact h
 exact Uo h
def bN(os:List Off):List Bool:=os.map (·.mj)
def fits(os:List Off)(m:Nat):List Bool:=os.map λo=>decide (o.tk.getD m 0≠0)
def iq(os:List Off)(m:Nat):List Bool:=os.map λo=>decide (o.tk.getD m 0≠0)&&o.we
def gK(os:List Off)(m:Nat):List Bool:=os.map λo=>decide (o.tk.getD m 0≠0)&&!o.we
def eI(os:List Off)(m g:Nat)(acc:cy)(e:Nat×List Nat):cy:=
 if g=0 then iu e.1 (joined (bN os) (ik (fits os m) e.2)) acc
 else if g<16 then iu (e.1 ||| g) (joined (bN os) (ik (iq os m) e.2)) (iu e.1 (joined (bN os) (ik (gK os m) e.2)) acc)
 else iu e.1 (joined (bN os) (ik (gK os m) e.2)) acc
def xh(os:List Off)(m g:Nat)(L:cy):cy:=L.foldl (eI os m g) []
theorem EJ(os:List Off)(φ:Nat->Nat)(i:Nat):dO (bN os) φ i=fY os φ i:=by
 unfold dO fY bN;rw[<-List.map_drop];have:∀(os:List Off) (φ:Nat->Nat),oU ((os.map (·.mj)).map λb=>⟨b,[],[],false⟩) φ=oU os φ:=by
  intro os
  induction os with
  |nil=>intro φ;rfl
  |cons o os Y=>intro φ;simp only[bM,oU,Y]
 exact this _ _
section
variable{os:List Off}{all:Nat}
theorem wD{ts:List Bool}{v:List Nat}(Y:ts.length=os.length)(Q:v.length=os.length+1)(φ:Nat->Nat):dot (joined (bN os) (ik ts v)) φ=(dot v λi=>if ts.getD i false=true then fY os φ (i+1)else 0)/\(joined (bN os) (ik ts v)).length=os.length+1:=by
 have O:(bN os).length=os.length:=by simp[bN]
 have U:(ik ts v).length=(bN os).length+1:=by rw[mQ ao];lia
 obtain⟨T,N⟩:=uP (bN os) (ik ts v) φ U;refine⟨?_,ao⟩;rw[T,vg];exact eJ _ _ _ λi _=>by rw[EJ]
theorem Yp(E:all<=15)(Q:pO os)(rest:GM)(r:List (Nat×Nat))(m g:Nat){acc:cy}(O:Len os.length acc){e:Nat×List Nat}(I:e.2.length=os.length+1) :
  lsum (fN (bK all os rest) os r) (eI os m g acc e)=lsum (fN (bK all os rest) os r) acc+dot e.2 (fN (bK all os rest) os ((m,g)::r) e.1)/\Len os.length (eI os m g acc e):=by
 have B:(fits os m).length=os.length:=by simp[fits]
 have A:(iq os m).length=os.length:=by simp[iq]
 have z:(gK os m).length=os.length:=by simp[gK]
 have L:∀i (o:Off),os[i]?=some o->(fits os m).getD i false=decide (o.tk.getD m 0≠0)/\(iq os m).getD i false=(decide (o.tk.getD m 0≠0)&&o.we)/\(gK os m).getD i false=(decide (o.tk.getD m 0≠0)&&!o.we):=λi o Y=>by
  simp[fits,iq,gK,dU,cM,Y]
 have J:∀i,os[i]?=none->(fits os m).getD i false=false/\(iq os m).getD i false=false/\(gK os m).getD i false=false:=λi Y=>by
  simp[fits,iq,gK,dU,cM,Y]
 obtain⟨y,N⟩:=wD B I (fN (bK all os rest) os r e.1);obtain⟨D,T⟩:=wD z I (fN (bK all os rest) os r e.1);obtain⟨v,M⟩:=wD A I (fN (bK all os rest) os r (e.1 ||| g));unfold eI;by_cases H:g=0
 .rw[ag H,jm _ N O,y];refine⟨?_,dQ N O⟩;congr 1;apply eJ;intro i _;simp only[fN];cases Y:os[i]? with
  |none=>rw[(J i Y).1];rfl
  |some o =>
   rw[(L i o Y).1];have:bQ e.1 g o.we=e.1:=by subst H;unfold bQ;split<;>simp
   simp only[this];by_cases U:o.tk.getD m 0=0
   .rw[ae (by simpa using U),ag U]
   rw[ag (by simpa using U),ae U]
 rw[ae H];by_cases C:g<16
 .rw[ag C,jm _ M (dQ T O),jm _ T O,D,v];refine⟨?_,dQ M (dQ T O)⟩;rw[Bb,<-j8];congr 1;apply eJ;intro i _;simp only[fN];cases Y:os[i]? with
  |none=>rw[(J i Y).2.1,(J i Y).2.2];rfl
  |some o =>
   rw[(L i o Y).2.1,(L i o Y).2.2];by_cases U:o.tk.getD m 0=0
   .rw[jF (λq=>q U)];simp only[ag U];simp
   rw[wQ U];simp only[ae U,IX];cases u:o.we<;>simp[bQ]
 rw[ae C,jm _ T O,D];refine⟨?_,dQ T O⟩;congr 1;apply eJ;intro i s;simp only[fN];cases Y:os[i]? with
 |none=>rw[(J i Y).2.2];rfl
 |some o =>
  rw[(L i o Y).2.2];have G:=(dE.mp Y).1;by_cases U:o.tk.getD m 0=0
  .rw[jF (λq=>q U)];simp only[ag U];simp
  rw[wQ U];simp only[ae U,IX];cases u:o.we with
  |false=>simp[bQ]
  |true =>
   have:all<bQ e.1 g true:=by
    unfold bQ;rw[ag rfl];have:=@Nat.right_le_or e.1 g;lia
   rw[Tc rest r (i+1) Q this G];simp
theorem PB(U:all<=15)(Y:pO os)(rest:GM)(r:List (Nat×Nat))(m g:Nat):∀(L acc:cy),Len os.length L->Len os.length acc->
  lsum (fN (bK all os rest) os r) (L.foldl (eI os m g) acc)=lsum (fN (bK all os rest) os r) acc+lsum (fN (bK all os rest) os ((m,g)::r)) L/\Len os.length (L.foldl (eI os m g) acc)
 |[],acc,_,T=>by simp[lsum,T]
 |e::L,acc,Q,T=>by
  obtain⟨O,N⟩:=Yp U Y rest r m g T (Q e df);obtain⟨M,J⟩:=PB U Y rest r m g L _ (λx I=>Q x (cF _ I)) N;rw[ng];refine⟨?_,J⟩;rw[M,O];simp only[lsum,bM,js];lia
end
end
section
def xx(L:cy)(i:Nat):Nat:=lsum (λ_=>cK i) L
structure fW(os:List Off)(c:Nat)(L:cy):Prop where
 len:Len os.length L
 nd:(L.map (·.1)).Nodup
 bd:∀j,j<=os.length->xx L j<=c*2 ^ iK (bN os) j
theorem Sr{val:Nat->Nat->Nat}{L:cy}{e:Nat×List Nat}(h:e∈L):dot e.2 (val e.1)<=lsum val L:=by
 unfold lsum
 induction L with
 |nil=>simp at h
 |cons a L Y =>
  simp only[bM,js];rcases b0.mp h with rfl|h
  .lia
  have:=Y h;lia
theorem JX:∀(v:List Nat) (φ ψ:Nat->Nat),(∀i,i<v.length->φ i<=ψ i)->dot v φ<=dot v ψ
 |[],_,_,_=>bD _
 |a::v,φ,ψ,h=>by
  rw[dot,dot];have U:=O1 a (h 0 aP);have T:=JX v (λj=>φ (j+1)) (λj=>ψ (j+1)) λi Y=>h (i+1) (by simpa using Y)
  lia
theorem O4(f g:Nat->Nat->Nat)(L:cy):lsum (λm i=>f m i+g m i) L=lsum f L+lsum g L:=by
 unfold lsum
 induction L with
 |nil=>rfl
 |cons a L Y =>
  rw[bM,js,Y,j8];simp only[bM,js];lia
theorem CS(L:cy):lsum (λ_ _=>0) L=0:=by
 unfold lsum
 induction L with
 |nil=>rfl
 |cons a L Y =>
  simp only[bM,js,Y];have:∀v:List Nat,dot v (λ_=>0)=0:=λv=>by
   induction v with
   |nil=>rfl
   |cons a v Y=>rw[dot,Y];lia
  rw[this]
def Xb(os:List Off)(L:cy)(j:Nat):Nat:=lsum (λ_ i=>if i<os.length then dO (bN os) (cK j) (i+1)else 0) L
theorem ZH{os:List Off}{c:Nat}{L:cy}(h:fW os c L):∀j,j<=os.length->Xb os L j<=c*2 ^ iK (bN os) j:=by
 have Q:(bN os).length=os.length:=by simp[bN]
 intro j U;refine Lb (ts:=bN os) (n:=xx L) (X:=Xb os L) ?_ (λj U=>?_) (λj U=>h.bd j ao) j ao
 .have:Xb os L 0=0:=by
   unfold Xb;rw[show(λ(_:Nat) i=>if i<os.length then dO (bN os) (cK 0) (i+1)else 0)=λ_ _=>0 from by
    funext _ i;split
    .exact VR _ ao
    rfl]
   exact CS L
  lia
 have e:(λ(_:Nat) i=>if i<os.length then dO (bN os) (cK (j+1)) (i+1)else 0)=λm i=>(λ(_:Nat) i=>cK j i) m i+(λ(_:Nat) i=>if (bN os).getD j false=true then(if i<os.length then dO (bN os) (cK j) (i+1)else 0)else 0) m i:=by
  funext _ i;simp only[];by_cases Y:i<os.length
  .rw[ag Y,ag Y,Gg (bN os) j U _ (i+1) rfl ao];congr 1;simp[cK]
  rw[ae Y,ae Y];have:cK j i=0:=by simp[cK];lia
  rw[this];simp
 unfold Xb;rw[e,O4];congr 1;by_cases T:(bN os).getD j false=true
 .simp only[ag T]
 simp only[ae T];exact CS L
theorem Fm{os:List Off}{c:Nat}(G:c*64<1048576)(I:iK (bN os) os.length<=6){L:cy}(h:fW os c L){e:Nat×List Nat}(Q:e∈L){ts:List Bool}(H:ts.length=os.length) :
  Small e.2/\tm (bN os) (ik ts e.2):=by
 have E:(bN os).length=os.length:=by simp[bN]
 have O:=h.len e Q;have mono:∀j,j<=os.length->iK (bN os) j<=6:=λj Y=>by
  refine bT ?_ I;unfold iK;exact List.Sublist.count_le true (List.take_sublist_take_left Y)
 have U:∀j,j<=os.length->c*2 ^ iK (bN os) j<1048576:=λj Y=>by
  have:=yx (show 0<2 by lia) (mono j Y)
  have:=O1 c this;simp only[show(2:Nat) ^ 6=64 from rfl]at this;lia
 constructor
 .refine Be (ts:=bN os) (φ:=λ_=>0) ao λj Y=>?_;have N:=Sr (val:=λ_=>cK j) Q;rw[EI]at N;have M:=h.bd j ao;have J:=U j ao;unfold xx at M;lia
 refine⟨by rw[mQ ao];lia,λj Y=>?_⟩
 rw[vg];have N:(dot e.2 λi=>if ts.getD i false=true then dO (bN os) (cK j) (i+1)else 0)<=dot e.2 λi=>if i<os.length then dO (bN os) (cK j) (i+1)else 0:=by
  apply JX;intro i _;by_cases T:ts.getD i false=true
  .have:i<os.length:=by
    apply IC;intro q;rw[dU,nz ao]at T;simp at T
   rw[ag T,ag this];exact bD _
  rw[ae T];exact dy _
 have M:=Sr (val:=λ_ i=>if i<os.length then dO (bN os) (cK j) (i+1)else 0) Q
 have J:=ZH h j ao;have D:=U j ao;unfold Xb at J;lia
theorem Wh{os:List Off}{m g j:Nat}{acc:cy}(T:Len os.length acc){e:Nat×List Nat}(Q:e.2.length=os.length+1) :
  xx (eI os m g acc e) j<=xx acc j+dot e.2 (λi=>if i<os.length then dO (bN os) (cK j) (i+1)else 0):=by
 have J:(fits os m).length=os.length:=by simp[fits]
 have E:(iq os m).length=os.length:=by simp[iq]
 have I:(gK os m).length=os.length:=by simp[gK]
 have out:∀(ts:List Bool),ts.length=os.length->∀i,ts.getD i false=true->i<os.length:=λts H i h=>by
  apply IC;intro q;rw[dU,nz ao]at h;simp at h
 obtain⟨D,O⟩:=wD J Q (cK j);obtain⟨G,Y⟩:=wD I Q (cK j);obtain⟨C,N⟩:=wD E Q (cK j);have one:∀(ts:List Bool),ts.length=os.length->(dot e.2 λi=>if ts.getD i false=true then fY os (cK j) (i+1)else 0)<=dot e.2 λi=>if i<os.length then dO (bN os) (cK j) (i+1)else 0:=λts H=>by
  apply JX;intro i _;by_cases h:ts.getD i false=true
  .rw[ag h,ag (out ts H i h),EJ];exact bD _
  rw[ae h];exact dy _
 unfold eI xx;split
 .rw[jm _ O T,D];have:=one _ J;lia
 split
 .rw[jm _ N (dQ Y T),jm _ Y T,G,C,Bb,<-j8];apply Nat.add_le_add_left;apply JX;intro i _;cases U:os[i]? with
  |none =>
   have M:(gK os m).getD i false=false:=by simp[gK,dU,cM,U]
   have L:(iq os m).getD i false=false:=by simp[iq,dU,cM,U]
   rw[M,L];simp
  |some o =>
   have M:(gK os m).getD i false=(decide (o.tk.getD m 0≠0)&&!o.we):=by simp[gK,dU,cM,U]
   have L:(iq os m).getD i false=(decide (o.tk.getD m 0≠0)&&o.we):=by simp[iq,dU,cM,U]
   have B:=(dE.mp U).1;rw[M,L,ag B,EJ];cases o.we<;>cases decide (o.tk.getD m 0≠0)<;>simp
 rw[jm _ Y T,G];have:=one _ I;lia
theorem Fp{os:List Off}{m g:Nat}{acc:cy}(h:(acc.map (·.1)).Nodup)(e:Nat×List Nat):((eI os m g acc e).map (·.1)).Nodup:=by
 unfold eI;split
 .exact km h
 split
 .exact km (km h)
 exact km h
theorem Me{os:List Off}{c m g:Nat}(M:0<=15){L:cy}(h:fW os c L):fW os c (xh os m g L):=by
 have go:∀(L acc:cy),Len os.length L->Len os.length acc->(acc.map (·.1)).Nodup->Len os.length (L.foldl (eI os m g) acc)/\((L.foldl (eI os m g) acc).map (·.1)).Nodup/\∀j,xx (L.foldl (eI os m g) acc) j<=xx acc j+Xb os L j:=by
  intro L
  induction L with
  |nil=>intro acc _ Y Q;exact⟨Y,Q,λj=>by simp[Xb,lsum]⟩
  |cons e L I =>
   intro acc J Y Q;have U:=J e df;have H:Len os.length (eI os m g acc e):=by
    have G:(fits os m).length=os.length:=by simp[fits]
    have E:(iq os m).length=os.length:=by simp[iq]
    have D:(gK os m).length=os.length:=by simp[gK]
    have O:=(wD G U (cK 0)).2;have T:=(wD D U (cK 0)).2;have N:=(wD E U (cK 0)).2;unfold eI;split
    .exact dQ O Y
    split
    .exact dQ N (dQ T Y)
    exact dQ T Y
   obtain⟨C,B,A⟩:=I _ (λx z=>J x (cF _ z)) H (Fp Q e);rw[ng];refine⟨C,B,λj=>bT (A j) ?_⟩;have:=Wh (m:=m) (g:=g) (j:=j) Y U;have y:Xb os (e::L) j=dot e.2 (λi=>if i<os.length then dO (bN os) (cK j) (i+1)else 0)+Xb os L j:=by simp[Xb,lsum]
   rw[y];lia
 obtain⟨v,u,s⟩:=go L [] h.len (λe U=>by simp at U) Up
 refine⟨v,u,λj r=>?_⟩;have Y:=s j;have Q:=ZH h j r;have q:xx [] j=0:=rfl;unfold xh;lia
def cZ(os:List Off)(row:List (Nat×Nat))(L:cy):cy:=row.foldl (λL x=>xh os x.1 x.2 L) L
def cQ(L acc:cy):cy:=L.foldl (λa e=>iu e.1 e.2 a) acc
def jn(os:List Off)(ways:List dh)(L:cy):cy:=ways.foldl (λa w=>cQ (cZ os w.2 L) a) []
def fG(os:List Off)(gm:GM)(L:cy):cy:=gm.foldl (λL ways=>jn os ways L) L
section
variable{os:List Off}{all:Nat}
theorem Im(U:all<=15)(Y:pO os)(rest:GM):∀(row:List (Nat×Nat)) {c:Nat} {L:cy},fW os c L->lsum (bK all os rest) (cZ os row L)=lsum (fN (bK all os rest) os row) L/\fW os c (cZ os row L)
 |[],c,L,h=>⟨rfl,h⟩
 |(m,g)::r,c,L,h=>by
  have T:=Me (m:=m) (g:=g) ao h;obtain⟨Q,O⟩:=Im U Y rest r T;refine⟨?_,O⟩;show lsum (bK all os rest) (cZ os r (xh os m g L))=_;rw[Q];have:=(PB U Y rest r m g L [] h.len (λe N=>by simp at N)).1
  unfold xh;rw[this];simp[lsum]
theorem Ah(val:Nat->Nat->Nat):∀(L acc:cy),Len os.length L->Len os.length acc->lsum val (cQ L acc)=lsum val acc+lsum val L/\Len os.length (cQ L acc)
 |[],acc,_,h=>by simp[cQ,lsum,h]
 |e::L,acc,Y,h=>by
  have U:=Y e df;obtain⟨T,Q⟩:=Ah val L (iu e.1 e.2 acc) (λx O=>Y x (cF _ O)) (dQ U h);refine⟨?_,Q⟩;show lsum val (cQ L (iu e.1 e.2 acc))=_;rw[T,jm val U h];simp only[lsum,bM,js];lia
theorem B9:∀(L acc:cy),(acc.map (·.1)).Nodup->((cQ L acc).map (·.1)).Nodup
 |[],_,h=>h
 |e::L,acc,h=>B9 L _ (km h)
theorem QC(Q:all<=15)(U:pO os)(rest:GM)(ways:List dh){c:Nat}{L:cy}(h:fW os c L) :
  lsum (bK all os rest) (jn os ways L)=lsum (bK all os (ways::rest)) L/\fW os (c*ways.length) (jn os ways L):=by
 have go:∀(Y:List dh) (k:Nat) (acc:cy),fW os (c*k) acc->lsum (bK all os rest) (Y.foldl (λa w=>cQ (cZ os w.2 L) a) acc)=lsum (bK all os rest) acc+(Y.map λw=>lsum (fN (bK all os rest) os w.2) L).sum/\fW os (c*(k+Y.length)) (Y.foldl (λa w=>cQ (cZ os w.2 L) a) acc):=by
  intro Y
  induction Y with
  |nil=>intro k acc T;exact⟨by simp,by simpa using T⟩
  |cons w Y O =>
   intro k acc T;obtain⟨G,N⟩:=Im Q U rest w.2 h;have J:=Ah (bK all os rest) (cZ os w.2 L) acc N.len T.len;have aQ:fW os (c*(k+1)) (cQ (cZ os w.2 L) acc):=by
    refine⟨J.2,B9 _ _ T.nd,λj I=>?_⟩;have E:=(Ah (λ_=>cK j) (cZ os w.2 L) acc N.len T.len).1;unfold xx;rw[E];have D:=T.bd j I;have C:=N.bd j I;unfold xx at D C;rw[NH,TR,Nat.mul_one];lia
   obtain⟨B,A⟩:=O (k+1) _ aQ;rw[ng];refine⟨?_,by rw[cT,show k+(Y.length+1)=k+1+Y.length by lia];exact A⟩
   rw[B,J.1,G,bM,js];lia
 obtain⟨H,M⟩:=go ways 0 [] ⟨λe z=>by simp at z,Up,λj _=>by simp[xx,lsum]⟩
 refine⟨?_,by rw[wL]at M;exact M⟩
 unfold jn;rw[H];have:lsum (bK all os (ways::rest)) L=(ways.map λw=>lsum (fN (bK all os rest) os w.2) L).sum:=by
  have e:bK all os (ways::rest)=λmet i=>(ways.map λw=>fN (bK all os rest) os w.2 met i).sum:=rfl;rw[e];clear H M go e
  induction ways with
  |nil=>simp only[qC,Tq];exact CS L
  |cons w Y O =>
   simp only[bM,js];rw[O4 (fN (bK all os rest) os w.2) (λmet i=>(Y.map λw=>fN (bK all os rest) os w.2 met i).sum),O]
 rw[this];simp[lsum]
theorem AD(U:all<=15)(Y:pO os):∀(gm:GM) {c:Nat} {L:cy},(∀T∈gm,T.length<=3)->fW os c L->lsum (bK all os []) (fG os gm L)=lsum (bK all os gm) L/\fW os (c*3 ^ gm.length) (fG os gm L)
 |[],c,L,_,h=>⟨rfl,by simpa[fG]using h⟩
 |ways::gm,c,L,O,h=>by
  obtain⟨N,Q⟩:=QC U Y gm ways h;have M:fW os (c*3) (jn os ways L):=⟨Q.len,Q.nd,λj J=>bT (Q.bd j J) (YD _ (O1 c (O ways df)))⟩;obtain⟨I,H⟩:=AD U Y gm (λT h=>O T (cF _ h)) M;refine⟨?_,?_⟩
  .show lsum (bK all os []) (fG os gm (jn os ways L))=_;rw[I,N]
  show fW os _ (fG os gm (jn os ways L));rw[cT,yp,xD (3 ^ gm.length),<-Eu];exact H
def e0(n:Nat):List Nat:=1::List.replicate n 0
theorem aaw(n:Nat):pack (e0 n)=1:=by
 have:pack (List.replicate n 0)=0:=(sU _).mpr λx Y=>Zg Y;simp[e0,pack,this]
theorem Hl(ts:List Bool)(j:Nat):∀(d i:Nat),d=ts.length - i->dO ts (cK j) i<=1
 |0,i,hd=>by
  rw[eV,dU,nz ao];simp only[cK];split<;>simp
 |d+1,i,hd=>by
  by_cases h:j<i
  .rw[jr ts j _ i rfl h];lia
  rw[eV];by_cases Y:i=j
  .subst Y;rw[jr ts i d (i+1) ao ao];simp[cK]
  have:=Hl ts j d (i+1) ao;have:cK j i=0:=by simp[cK];lia
  rw[this];split<;>lia
theorem Qu(n:Nat)(φ:Nat->Nat):dot (e0 n) φ=φ 0:=by
 unfold e0;rw[dot,vW _ _ λx Y=>Zg Y];lia
theorem O9:fW os 1 [(0,joined (bN os) (e0 os.length))]/\tm (bN os) (e0 os.length):=by
 have U:(bN os).length=os.length:=by simp[bN]
 have Y:(e0 os.length).length=(bN os).length+1:=by simp[e0,U]
 refine⟨⟨λe T=>?_,by simp,λj Q=>?_⟩,Y,λj Q=>?_⟩
 .simp at T;subst T;rw[(uP (bN os) _ (cK 0) Y).2,U]
 .have:xx [(0,joined (bN os) (e0 os.length))] j=dot (joined (bN os) (e0 os.length)) (cK j):=by simp[xx,lsum]
  rw[this,(uP (bN os) _ (cK j) Y).1,Qu];have:=Hl (bN os) j _ 0 rfl;have:1<=2 ^ iK (bN os) j:=ZM;lia
 rw[Qu];have:=Hl (bN os) j _ 0 rfl;lia
def k7(k:Nat):cy->Option (List Nat)
 |[]=>none
 |(j,v)::r=>if j=k then some v else k7 k r
theorem Yq(T:all<=15)(Y:pO os)(gm:GM)(E:∀D∈gm,D.length<=3) :
  ((k7 all (fG os gm [(0,joined (bN os) (e0 os.length))])).getD []).getD os.length 0=(aU all gm 0 os).length:=by
 obtain⟨J,C⟩:=O9 (os:=os);obtain⟨I,Q⟩:=AD T Y gm E J;have B:(bN os).length=os.length:=by simp[bN]
 have A:(e0 os.length).length=(bN os).length+1:=by simp[e0,B]
 have H:lsum (bK all os gm) [(0,joined (bN os) (e0 os.length))]=(aU all gm 0 os).length:=by
  have:lsum (bK all os gm) [(0,joined (bN os) (e0 os.length))]=dot (joined (bN os) (e0 os.length)) (bK all os gm 0):=by simp[lsum]
  rw[this,(uP (bN os) _ _ A).1,Qu,EJ,Dn Y gm 0 0 (dy _),EV]
 rw[<-H,<-I];generalize fG os gm [(0,joined (bN os) (e0 os.length))]=L at Q;have nd:=Q.nd;have len:=Q.len;clear I Q J C H
 induction L with
 |nil=>simp[k7,lsum]
 |cons e L U =>
  obtain⟨k,v⟩:=e;simp only[bM,qD]at nd;have G:lsum (bK all os []) ((k,v)::L)=dot v (bK all os [] k)+lsum (bK all os []) L:=by simp[lsum]
  rw[G];by_cases O:k=all
  .subst O;have z:lsum (bK k os []) L=0:=by
    have:∀x∈L,x.1≠k:=λx N q=>nd.1 (q▸bS.mpr ⟨x,N,rfl⟩);clear U G nd
    induction L with
    |nil=>rfl
    |cons x L U =>
     have u:lsum (bK k os []) (x::L)=dot x.2 (bK k os [] x.1)+lsum (bK k os []) L:=by simp[lsum]
     rw[u,U (λy M=>len y (by
      rcases b0.mp M with q|q
      .exact b0.mpr (.inl q)
      exact cF _ (cF _ q))) (λy M=>this y (cF _ M))]
     rw[eJ x.2 _ (λ_=>0) λi _=>by simp only[bK];rw[ae (λq=>this x df q.2)]]
     have:∀v:List Nat,dot v (λ_=>0)=0:=λv=>by
      induction v with
      |nil=>rfl
      |cons a v U=>rw[dot,U];lia
     rw[this]
   rw[z,C7];simp only[k7,dB,uC];rw[eJ v _ (cK os.length) λi _=>by simp[bK,cK],EI]
  simp only[k7,ae O];rw[U nd.2 λx N=>len x (cF _ N)];rw[eJ v _ (λ_=>0) λi _=>by simp only[bK];rw[ae (λq=>O q.2)]]
  have:∀v:List Nat,dot v (λ_=>0)=0:=λv=>by
   induction v with
   |nil=>rfl
   |cons a v U=>rw[dot,U];lia
  rw[this];lia
end
end
def kept(l:Line):Line:=l.filter λs=>s.join != 1
def xr(l:Line):Prop:=∀s,l.getLast?=some s->s.join≠1
theorem xr.tail{s:Syll}{l:Line}(h:xr (s::l)):xr l:=λx Y=>h x (by rw[YR,Y];rfl)
theorem aaE{l:Line}(h:xr l)(Y:l≠[]):kept l≠[]:=by
 obtain⟨s,U⟩:∃s,l.getLast?=some s:=by
  cases e:l.getLast? with
  |none=>exact absurd (YQ.mp e) Y
  |some s=>exact⟨s,rfl⟩
 have:s∈kept l:=g6.mpr ⟨List.mem_of_getLast? U,by simpa using h s U⟩
 exact List.ne_nil_of_mem this
theorem Am(k:Nat->List Off->List Path)(Y:∀met l,xr l->(k met (bg false l)).length=(k met (bg false (kept l))).length) :
  ∀(l:Line) (row:List (Nat×Nat)) (met:Nat),xr l->(bP k (bg false l) row met).length=(bP k (bg false (kept l)) row met).length
 |l,[],met,h=>by rw[c9,c9];exact Y met l h
 |[],_::_,_,_=>rfl
 |s::l,(m,g)::r,met,h=>by
  by_cases U:s.join=1
  .have T:kept (s::l)=kept l:=by simp[kept,U]
   have N:=Am k Y l ((m,g)::r) met h.tail;rw[T,<-N];have M:bg false (s::l)=b9 false s::bg false l:=rfl;rw[M];simp only[bP];have L:(b9 false s).tk.getD m 0=0:=by
    simp only[b9,ag U]
    match m with
    |0=>rfl
    |1=>rfl
    |2=>rfl
    |3=>rfl
    |m+4=>rfl
   have J:(b9 false s).mj=true:=by simp[b9,U]
   rw[ag J,ag L];simp
  have T:kept (s::l)=s::kept l:=by simp[kept,U]
  have Q:=Am k Y l ((m,g)::r) met h.tail;have O:=Am k Y l r (bQ met g (b9 false s).we) h.tail;rw[T];show(bP k (b9 false s::bg false l) _ _).length=(bP k (b9 false s::bg false (kept l)) _ _).length;simp only[bP,ee];congr 1
  .split
   .simp only[bG];exact Q
   rfl
  split
  .rfl
  simp only[bG];exact O
theorem Mi(all:Nat):∀(gm:GM) (met:Nat) (l:Line),xr l->(aU all gm met (bg false l)).length=(aU all gm met (bg false (kept l))).length
 |[],met,l,h=>by
  simp only[aU];by_cases Y:l=[]
  .subst Y;rfl
  have U:=aaE h Y;rw[ae (by simp[bg,Y]),ae (by simp[bg,U])]
 |ways::gm,met,l,h=>by
  simp only[aU];rw[fw,fw];congr 1;apply kZ;intro w _;rw[bG,bG];exact Am _ (Mi all gm) l w.1.2 met h
theorem eC.ach{l:Line}(h:eC l):xr l:=λs U=>by
 obtain⟨T,Y,Q⟩:=h.last;rw[U]at Y;cases Y;lia
def aY(l:Line):List Off:=bg false (kept l)
theorem Jx{l:Line}(h:eC l):pO (aY l):=by
 intro o U;obtain⟨s,Y,O⟩:=h.last;have:(kept l).getLast?=some s:=by
  have e:l=l.dropLast++[s]:=by
   cases T:l with
   |nil=>rw[T]at Y;cases Y
   |cons a t =>
    rw[<-T];have Q:l≠[]:=by rw[T];simp
    rw[List.getLast?_eq_some_getLast Q]at Y;rw[<-cp Y,List.dropLast_concat_getLast]
  unfold kept;rw[e,CF,NP (by simp[O])]
  simp
 unfold aY bg at U;rw[List.getLast?_map,this]at U;cases U;simp[b9,O]
theorem SX{l:Line}(h:eC l):iK (bN (aY l)) (aY l).length<=6:=by
 have U:(bN (aY l)).length=(aY l).length:=by simp[bN]
 unfold iK;rw[CJ ao];refine bT ?_ h.iK;unfold bN aY bg;rw[cf,Ul,Nh,SY];unfold kept;rw[GS];apply yA;congr 1;apply ni;intro s Y;have:=(h.each s Y).2.2;simp only[Function.comp,b9];rw[lU];simp only[gN,lK,dI,bne_iff_ne];lia
theorem zJ{M:Metre}(T:fz M)(wc:Bool):(∀Y∈aT M wc,Y.length<=3)/\(aT M wc).length=M.places.length:=by
 have:∀(ps:List (List Alt)) (p:Nat),(∀Y∈ps,Y.length<=3)->(∀Y∈fR (gF M) wc p ps,Y.length<=3)/\(fR (gF M) wc p ps).length=ps.length:=by
  intro ps
  induction ps with
  |nil=>intro p _;exact⟨λY h=>by simp[fR]at h,rfl⟩
  |cons a ps Q =>
   intro p h;obtain⟨O,N⟩:=Q (p+1) λY U=>h Y (cF _ U);refine⟨λY U=>?_,by simp[fR,N]⟩
   simp only[fR]at U;rcases b0.mp U with rfl|U
   .rw[bG];exact h a df
   exact O Y U
 exact this M.places 0 λY U=>(T.ways Y U).2
theorem Rm{M:Metre}(Y:fz M){l:Line}(U:eC l) :
  ((k7 (cutsOf M).1 (fG (aY l) (aT M false) [(0,joined (bN (aY l)) (e0 (aY l).length))])).getD []).getD (aY l).length 0=(Sw66.scans M l).length:=by
 rw[Yq (HH Y) (Jx U) _ (zJ Y false).1,Dr Y U false];exact(Mi _ _ _ _ U.ach).symm
theorem K5(M:Metre)(x:Scan):Sw66.cost M x=dw true M.places x.alts:=by
 unfold Sw66.cost Sw66.rowsOf;have:∀(ps:List (List Alt)) (as:List Nat) (n:Nat),((ps.zip as).map λp=>p.1.getD p.2 ⟨0,[]⟩).foldl (λn a=>n+a.cost) n=n+dw true ps as:=by
  intro ps
  induction ps with
  |nil=>intro as n;simp[dw]
  |cons w ps Y =>
   intro as n;cases as with
   |nil=>simp[dw]
   |cons a as=>rw[rG,bM,ng,Y];simp only[dw,dB];lia
 rw[this,wL]
theorem uS:∀(ps:List (List Alt)) (as:List Nat),dw false ps as=0
 |[],_=>by simp[dw]
 |_::_,[]=>by simp[dw]
 |_::ps,_::as=>by simp[dw,uS ps as]
theorem AI:∀l:List Nat,Sw66.least l=(eS l).map (·.1)
 |[]=>rfl
 |a::l=>by
  simp only[Sw66.least,eS];rw[AI l];cases eS l with
  |none=>rfl
  |some b =>
   simp only[iL,ck];split
   .rename_i h;simp only[iL];congr 1;lia
   rename_i h;split
   .rename_i Y;simp only[iL];congr 1;lia
   simp only[iL];congr 1;lia
theorem Xq(M:Metre)(l:Line)(x:Scan):Sw66.wrong l x M=fQ vI (cq l x.marks) (Aq M.places x.alts):=by
 unfold Sw66.wrong;have U:(((l.zip x.marks).filter λs=>s.2 != 0).map λs=>s.1)=cq l x.marks:=rfl;have T:∀(ps:List (List Alt)) (as:List Nat),((ps.zip as).map λp=>p.1.getD p.2 ⟨0,[]⟩).flatMap (λa=>a.row)=Aq ps as:=by
  intro ps
  induction ps with
  |nil=>intro as;simp[Aq]
  |cons w ps Y =>
   intro as;cases as with
   |nil=>simp[Aq]
   |cons a as=>rw[rG,bM,kb,Y];rfl
 rw[U];unfold Sw66.rowsOf;rw[T];have:∀(a:Line) (b:List Nat) (n:Nat),(a.zip b).foldl (λn z=>if (Sw66.taken z.2 z.1).isNone=true then n+1 else n) n=n+fQ vI a b:=by
  intro a
  induction a with
  |nil=>intro b n;simp[fQ]
  |cons s a Y =>
   intro b n;cases b with
   |nil=>simp[fQ]
   |cons m b =>
    rw[rG,ng,Y];simp only[fQ,vI];split<;>lia
 rw[this,wL]
theorem XE{M:Metre}(U:fz M){l:Line}(T:eC l):Sw66.mends M l=(S (PM M l)).map (·.1):=by
 unfold Sw66.mends;rw[AI];congr 1;unfold S;congr 1;unfold PM aT bg;rw[ux Sw66.forced Uz vI (b9 true) (gF M) false _ M.places 0 l 0 (λs Q=>⟨UQ (T.each s Q).1,(T.each s Q).1⟩) (λO N w Y m L=>(U.alt O N w Y).2.2 m L)];rw[cf];have e:(Sw66.through Sw66.forced M.places l).filter (λx=>decide ((0 ||| gR (gF M) 0 M.places l x)=(cutsOf M).1))=(Sw66.through Sw66.forced M.places l).filter λx=>M.cuts.all (Sw66.cutOk M l x):=by
  apply ni;intro x _;rw[lU,dI,Nat.zero_or,Qv U]
 rw[e];apply kZ;intro x _;simp only[Function.comp,CD,uS,C7];exact Xq M l x
theorem aap{M:Metre}(N:fz M){l:Line}(L:eC l):TL M false 0 l=Sw66.scans M l/\S (PP M false l)=if (Sw66.scans M l)=[]then none else some (0,(Sw66.scans M l).length):=by
 have H:TL M false 0 l=Sw66.scans M l:=by
  unfold TL;rw[ub];intro x _;rw[uS];rfl
 refine⟨H,?_⟩;have J:∀p∈PP M false l,p.cost=0:=λp U=>by
  rw[zY N L]at U;obtain⟨x,_,rfl⟩:=bS.mp U;exact uS _ _
 have Y:=Dr N L false;cases T:S (PP M false l)with
 |none =>
  have:PP M false l=[]:=by
   unfold S at T;have:=o9.mp T;simpa using this
  rw[this]at Y;rw[ag (S6.mp Y)]
 |some a =>
  unfold S at T;obtain⟨G,C,E⟩:=jk T;obtain⟨p,U,Q⟩:=bS.mp G;have I:a.1=0:=by rw[<-Q];exact J p U
  have O:Sw66.scans M l≠[]:=λq=>by rw[q]at Y;simp at Y;rw[S6.mp Y.symm]at U;simp at U
  rw[ae O,Y];have:a.2=(PP M false l).length:=by
   rw[E,I];have:∀x∈(PP M false l).map (·.cost),0=x:=λx D=>by
    obtain⟨p,U,rfl⟩:=bS.mp D;exact(J p U).symm
   rw[List.count_eq_length.mpr this,bG]
  rw[<-this,<-I]
theorem SJ{M:Metre}(H:fz M){l:Line}(G:eC l):(S (PP M true l)=none/\Sw66.cheapest M l=[])\/∃a,S (PP M true l)=some a/\Sw66.cheapest M l=TL M true a.1 l/\a.2=(Sw66.cheapest M l).length/\Sw66.cheapest M l≠[]:=by
 have Y:=(lZ M l).2;have A:Sw66.least ((Sw66.scans M l).map (Sw66.cost M))=(eS ((Sw66.scans M l).map (Sw66.cost M))).map (·.1):=AI _;have T:(PP M true l).map (·.cost)=(L0 M l).map (Sw66.cost M):=by
  rw[zY H G,cf];apply kZ;intro x _;simp[Function.comp,Je,K5]
 cases O:S (PP M true l)with
 |none =>
  left;refine⟨rfl,?_⟩;unfold S at O;rw[T]at O;have z:=o9.mp O;have E:L0 M l=[]:=by simpa using z
  have L:Sw66.scans M l=[]:=by rw[E]at Y;exact List.perm_nil.mp Y
  unfold Sw66.cheapest;rw[L];rfl
 |some a =>
  right;refine⟨a,rfl,?_⟩;have Q:=O;unfold S at Q;rw[T]at Q;obtain⟨J,D,s⟩:=jk Q;have I:Sw66.least ((Sw66.scans M l).map (Sw66.cost M))=some a.1:=by
   rw[A];cases C:eS ((Sw66.scans M l).map (Sw66.cost M))with
   |none =>
    have:=o9.mp C;have L:Sw66.scans M l=[]:=by simpa using this
    rw[L]at Y;rw[List.nil_perm.mp Y]at J;simp at J
   |some b =>
    obtain⟨y,v,r⟩:=jk C;have B:=Y.map (Sw66.cost M);have E:=D b.1 (B.mem_iff.mp y);have L:=v a.1 (B.mem_iff.mpr J);simp only[iL];congr 1;lia
  have N:Sw66.cheapest M l=TL M true a.1 l:=by
   unfold Sw66.cheapest TL;rw[I];apply ni;intro x _;rw[K5]
  have U:a.2=(Sw66.cheapest M l).length:=by
   rw[N];have:=KR H G (wc:=true) (c:=a.1) (λp u=>D p.cost (by rw[<-T];exact bS.mpr ⟨p,u,rfl⟩)) (λ_=>true)
   rw[ub.mpr aP,ub.mpr aP,O]at this;rw[<-this];simp[fB]
  refine⟨N,U,λq=>?_⟩;rw[q]at U;have:0<((L0 M l).map (Sw66.cost M)).count a.1:=List.count_pos_iff.mpr J;simp only[oH]at U;lia
theorem Km{M:Metre}{wc:Bool}{l:Line}{a:Nat×Nat}(h:S (PP M wc l)=some a):∀p∈PP M wc l,a.1<=p.cost:=λp Y=>by
 unfold S at h;exact(jk h).2.1 _ (bS.mpr ⟨p,Y,rfl⟩)
end VM
namespace VM
open Sw66 (Syll Alt Cut Metre Line Scan)
section
open Sw66Neutral (natIn bitIn many_ listIn syllIn lineIn altIn spotIn cutIn metreIn all_ callOf)
def Enc{A:Type}(p:List Int->Option (A×List Int))(Y:A->List Int)(ok:A->Prop):Prop:=∀l x r,p l=some (x,r)->l=Y x++r/\ok x
def tw(n:Nat):Prop:=n<4294967296
theorem kX:Enc natIn (λn=>[(n:Int)]) tw:=by
 intro l x r h;cases l with
 |nil=>simp[natIn]at h
 |cons n l =>
  simp only[natIn]at h;split at h
  .rename_i q;simp only[gY,gD]at h;obtain⟨rfl,rfl⟩:=h;refine⟨?_,?_⟩
   .simp only[rQ,vn];congr 1;lia
   unfold tw;have:(2:Int) ^ 32=4294967296:=by decide
   lia
  cases h
def bI(b:Bool):Int:=if b=true then 1 else 0
theorem RW:Enc bitIn (λb=>[bI b]) (λ_=>True):=by
 intro l x r h;unfold bitIn at h;split at h
 .cases h;exact⟨rfl,trivial⟩
 .cases h;exact⟨rfl,trivial⟩
 cases h
theorem P0{A:Type}{p:List Int->Option (A×List Int)}{Y:A->List Int}{ok:A->Prop}(h:Enc p Y ok):∀(k:Nat) (l:List Int) (xs:List A) (r:List Int),many_ p k l=some (xs,r)->l=xs.flatMap Y++r/\xs.length=k/\∀x∈xs,ok x
 |0,l,xs,r,e=>by
  simp only[many_,gY,gD]at e;obtain⟨rfl,rfl⟩:=e;exact⟨rfl,rfl,λx U=>by simp at U⟩
 |k+1,l,xs,r,e=>by
  simp only[many_]at e;cases T:p l with
  |none=>rw[T]at e;cases e
  |some y =>
   rw[T]at e;simp only[ur]at e;cases Q:many_ p k y.2 with
   |none=>rw[Q]at e;cases e
   |some z =>
    rw[Q]at e;simp only[iL,gY,gD]at e;obtain⟨rfl,rfl⟩:=e;obtain⟨O,N⟩:=h l y.1 y.2 T;obtain⟨J,M,L⟩:=P0 h k y.2 z.1 z.2 Q;refine⟨?_,by simp[M],λx U=>?_⟩
    .rw[O,kb,rD];congr 1
    rcases b0.mp U with rfl|U
    .exact N
    exact L x U
def eList{A:Type}(Y:A->List Int)(xs:List A):List Int:=(xs.length:Int)::xs.flatMap Y
def FO{A:Type}(ok:A->Prop)(xs:List A):Prop:=xs.length<=60/\∀x∈xs,ok x
theorem enc_list{A:Type}{p:List Int->Option (A×List Int)}{Y:A->List Int}{ok:A->Prop}(h:Enc p Y ok):Enc (listIn p) (eList Y) (FO ok):=by
 intro l x r e;cases l with
 |nil=>simp[listIn]at e
 |cons n l =>
  simp only[listIn]at e;split at e
  .rename_i q;obtain⟨U,Q,T⟩:=P0 h _ _ _ _ e;refine⟨?_,ao,T⟩;unfold eList;rw[rQ,<-U];congr 1;lia
  cases e
def si(s:Syll):List Int:=[(s.weight:Int),(s.join:Int),bI s.ends]
def Y1(s:Syll):Prop:=tw s.weight/\tw s.join
theorem Xz:Enc syllIn si Y1:=by
 intro l x r h;unfold syllIn at h;cases Y:natIn l with
 |none=>rw[Y]at h;cases h
 |some w =>
  rw[Y]at h;simp only[ur]at h;cases U:natIn w.2 with
  |none=>rw[U]at h;cases h
  |some j =>
   rw[U]at h;simp only[ur]at h;cases T:bitIn j.2 with
   |none=>rw[T]at h;cases h
   |some e =>
    rw[T]at h;simp only[iL,gY,gD]at h;obtain⟨rfl,rfl⟩:=h;obtain⟨Q,O⟩:=kX l w.1 w.2 Y;obtain⟨N,M⟩:=kX w.2 j.1 j.2 U;obtain⟨L,_⟩:=RW j.2 e.1 e.2 T;refine⟨?_,O,M⟩;rw[Q,N,L];rfl
def jH:Line->List Int:=eList si
def Ac:Line->Prop:=FO Y1
theorem vD:Enc lineIn jH Ac:=enc_list Xz
def Ae(a:Alt):List Int:=(a.cost:Int)::eList (λn:Nat=>[(n:Int)]) a.row
def Vr(a:Alt):Prop:=tw a.cost/\FO tw a.row
theorem aag:Enc altIn Ae Vr:=by
 intro l x r h;unfold altIn at h;cases Y:natIn l with
 |none=>rw[Y]at h;cases h
 |some w =>
  rw[Y]at h;simp only[ur]at h;cases U:listIn natIn w.2 with
  |none=>rw[U]at h;cases h
  |some j =>
   rw[U]at h;simp only[iL,gY,gD]at h;obtain⟨rfl,rfl⟩:=h;obtain⟨T,Q⟩:=kX l w.1 w.2 Y;obtain⟨O,N⟩:=enc_list kX w.2 j.1 j.2 U;refine⟨?_,Q,N⟩;rw[T,O];rfl
def HS(s:Nat×Nat):List Int:=[(s.1:Int),(s.2:Int)]
theorem XJ:Enc spotIn HS (λs=>tw s.1/\tw s.2):=by
 intro l x r h;unfold spotIn at h;cases Y:natIn l with
 |none=>rw[Y]at h;cases h
 |some w =>
  rw[Y]at h;simp only[ur]at h;cases U:natIn w.2 with
  |none=>rw[U]at h;cases h
  |some j =>
   rw[U]at h;simp only[iL,gY,gD]at h;obtain⟨rfl,rfl⟩:=h;obtain⟨T,Q⟩:=kX l w.1 w.2 Y;obtain⟨O,N⟩:=kX w.2 j.1 j.2 U;refine⟨?_,Q,N⟩;rw[T,O];rfl
def Kh(c:Cut):List Int:=bI c.must::eList HS c.spots
def okC(c:Cut):Prop:=FO (λs:Nat×Nat=>tw s.1/\tw s.2) c.spots
theorem aaf:Enc cutIn Kh okC:=by
 intro l x r h;unfold cutIn at h;cases Y:bitIn l with
 |none=>rw[Y]at h;cases h
 |some w =>
  rw[Y]at h;simp only[ur]at h;cases U:listIn spotIn w.2 with
  |none=>rw[U]at h;cases h
  |some j =>
   rw[U]at h;simp only[iL,gY,gD]at h;obtain⟨rfl,rfl⟩:=h;obtain⟨T,_⟩:=RW l w.1 w.2 Y;obtain⟨Q,O⟩:=enc_list XJ w.2 j.1 j.2 U;refine⟨?_,O⟩;rw[T,Q];rfl
def Cq(M:Metre):List Int:=eList (eList Ae) M.places++eList Kh M.cuts
def okM(M:Metre):Prop:=FO (FO Vr) M.places/\FO okC M.cuts
theorem V3:Enc metreIn Cq okM:=by
 intro l x r h;unfold metreIn at h;cases Y:listIn (listIn altIn) l with
 |none=>rw[Y]at h;cases h
 |some w =>
  rw[Y]at h;simp only[ur]at h;cases U:listIn cutIn w.2 with
  |none=>rw[U]at h;cases h
  |some j =>
   rw[U]at h;simp only[iL,gY,gD]at h;obtain⟨rfl,rfl⟩:=h;obtain⟨T,Q⟩:=enc_list (enc_list aag) l w.1 w.2 Y;obtain⟨O,N⟩:=enc_list aaf w.2 j.1 j.2 U;refine⟨?_,Q,N⟩;rw[T,O,<-rD];rfl
def Xj(n:Nat):List Int:=[(n:Int)]
def EC:Sw66.Call->List Int
 |.begins=>[0]
 |.metre M=>1::Cq M
 |.scans k l=>2::(k:Int)::jH l
 |.scan k n l=>3::(k:Int)::(n:Int)::jH l
 |.cheapest k l=>4::(k:Int)::jH l
 |.which l=>5::jH l
 |.mends k l=>6::(k:Int)::jH l
 |.poem f Y=>7::(eList Xj f++eList jH Y)
 |.forms Y=>8::eList jH Y
def Oq:Sw66.Call->Prop
 |.begins=>True
 |.metre M=>okM M
 |.scans k l=>tw k/\Ac l
 |.scan k n l=>tw k/\tw n/\Ac l
 |.cheapest k l=>tw k/\Ac l
 |.which l=>Ac l
 |.mends k l=>tw k/\Ac l
 |.poem f Y=>FO tw f/\FO Ac Y
 |.forms Y=>FO Ac Y
theorem all_some{A:Type}{x:Option (A×List Int)}{a:A}(h:all_ x=some a):x=some (a,[]):=by
 unfold all_ at h;cases x with
 |none=>cases h
 |some y =>
  simp only[ur]at h;split at h
  .rename_i q;cases h;obtain⟨U,Y⟩:=y;have:Y=[]:=by simpa using q
   subst this;rfl
  cases h
theorem GD{mk:Nat->Line->Sw66.Call}{l:List Int}{y:Sw66.Call}(h:all_ ((natIn l).bind λk=>(lineIn k.2).map λx=>(mk k.1 x.1,x.2))=some y) :
  ∃k x,y=mk k x/\l=(k:Int)::jH x/\tw k/\Ac x:=by
 have h:=all_some h;cases Y:natIn l with
 |none=>rw[Y]at h;cases h
 |some w =>
  rw[Y]at h;simp only[ur]at h;cases U:lineIn w.2 with
  |none=>rw[U]at h;cases h
  |some j =>
   rw[U]at h;simp only[iL,gY,gD]at h;obtain⟨rfl,e⟩:=h;obtain⟨T,Q⟩:=kX l w.1 w.2 Y;obtain⟨O,N⟩:=vD w.2 j.1 j.2 U;refine⟨w.1,j.1,rfl,?_,Q,N⟩;rw[T,O,e,iN];rfl
theorem WN{c:List Int}{x:Sw66.Call}(h:callOf c=some x):c=EC x/\Oq x:=by
 cases c with
 |nil=>cases h
 |cons a l =>
 cases a with
 |negSucc n=>cases h
 |ofNat n =>
 rcases n with _|_|_|_|_|_|_|_|_|n
 .cases l with
  |nil=>cases h;exact⟨rfl,trivial⟩
  |cons=>cases h
 .replace h:(all_ (metreIn l)).map .metre=some x:=h;cases Y:all_ (metreIn l)with
  |none=>rw[Y]at h;cases h
  |some M =>
   rw[Y]at h;cases h;obtain⟨U,T⟩:=V3 l M [] (all_some Y);exact⟨by rw[U,iN];rfl,T⟩
 .obtain⟨k,x,rfl,e,Q,O⟩:=GD (mk:=λk x=>.scans k x) h;exact⟨by rw[e];rfl,Q,O⟩
 .replace h:all_ ((natIn l).bind λk=>(natIn k.2).bind λn=>(lineIn n.2).map λx=>(Sw66.Call.scan k.1 n.1 x.1,x.2))=some x:=h;have h:=all_some h;cases Y:natIn l with
  |none=>rw[Y]at h;cases h
  |some w =>
   rw[Y]at h;simp only[ur]at h;cases N:natIn w.2 with
   |none=>rw[N]at h;cases h
   |some n =>
    rw[N]at h;simp only[ur]at h;cases L:lineIn n.2 with
    |none=>rw[L]at h;cases h
    |some j =>
     rw[L]at h;simp only[iL,gY,gD]at h;obtain⟨rfl,e⟩:=h;obtain⟨U,T⟩:=kX l w.1 w.2 Y;obtain⟨Q,O⟩:=kX w.2 n.1 n.2 N;obtain⟨J,I⟩:=vD n.2 j.1 j.2 L;refine⟨?_,T,O,I⟩;rw[U,Q,J,e,iN];rfl
 .obtain⟨k,x,rfl,e,Q,O⟩:=GD (mk:=λk x=>.cheapest k x) h;exact⟨by rw[e];rfl,Q,O⟩
 .replace h:(all_ (lineIn l)).map .which=some x:=h;cases Y:all_ (lineIn l)with
  |none=>rw[Y]at h;cases h
  |some M =>
   rw[Y]at h;cases h;obtain⟨U,T⟩:=vD l M [] (all_some Y);exact⟨by rw[U,iN];rfl,T⟩
 .obtain⟨k,x,rfl,e,Q,O⟩:=GD (mk:=λk x=>.mends k x) h;exact⟨by rw[e];rfl,Q,O⟩
 .replace h:all_ ((listIn natIn l).bind λf=>(listIn lineIn f.2).map λx=>(Sw66.Call.poem f.1 x.1,x.2))=some x:=h;have h:=all_some h;cases Y:listIn natIn l with
  |none=>rw[Y]at h;cases h
  |some w =>
   rw[Y]at h;simp only[ur]at h;cases N:listIn lineIn w.2 with
   |none=>rw[N]at h;cases h
   |some j =>
    rw[N]at h;simp only[iL,gY,gD]at h;obtain⟨rfl,e⟩:=h;obtain⟨U,T⟩:=enc_list kX l w.1 w.2 Y;obtain⟨Q,O⟩:=enc_list vD w.2 j.1 j.2 N;refine⟨?_,T,O⟩;rw[U,Q,e,iN];rfl
 .replace h:(all_ (listIn lineIn l)).map .forms=some x:=h;cases Y:all_ (listIn lineIn l)with
  |none=>rw[Y]at h;cases h
  |some M =>
   rw[Y]at h;cases h;obtain⟨U,T⟩:=enc_list vD l M [] (all_some Y);exact⟨by rw[U,iN];rfl,T⟩
 cases h
def rh(c:List Int):List Int:=0::(c.length:Int)::c
theorem Jq:∀(f:Nat) (l:List Int) (U:List (List (List Int))),PyFlat.calls PySw66.shape f l=some U->∃T:List (List Int),U=T.map (λc=>[[0],c])/\l=T.flatMap rh
 |f,[],U,h=>by
  have:PyFlat.calls PySw66.shape f []=some []:=by cases f<;>rfl
  rw[this]at h;cases h;exact⟨[],rfl,rfl⟩
 |0,p::r,U,h=>by simp[PyFlat.calls]at h
 |f+1,p::r,U,h=>by
  simp only[PyFlat.calls]at h;cases Y:PyFlat.call PySw66.shape (p::r)with
  |none=>rw[Y]at h;cases h
  |some x =>
   rw[Y]at h;simp only[]at h;cases Q:PyFlat.calls PySw66.shape f x.2 with
   |none=>rw[Q]at h;cases h
   |some O =>
    rw[Q]at h;cases h;obtain⟨T,M,L⟩:=Jq f x.2 O Q;unfold PyFlat.call PySw66.shape at Y;by_cases N:p=0
    .subst N;simp only[dB]at Y;rw[ae ao]at Y;simp only[EV,PyFlat.rows,List.take_zero]at Y;cases hr:PyFlat.row r with
     |none=>rw[hr]at Y;cases Y
     |some y =>
      rw[hr]at Y;simp only[]at Y;cases Y;unfold PyFlat.row at hr;cases r with
      |nil=>cases hr
      |cons n J =>
       simp only[]at hr;split at hr
       .rename_i q;cases hr;refine⟨(J.take n.toNat)::T,by rw[M];rfl,?_⟩
        rw[kb,<-L];simp only[rh,rQ];rw[Td,iA];congr 2;lia
       cases hr
    simp only[ae N]at Y;cases Y
end
def gW{α:Type}(xs:List α)(i n:Nat):List α:=((List.range ((xs.length - i+n - 1) / n)).map λk=>i+n*k).filterMap λj=>xs[j]?
theorem Bn{len i n k:Nat}(Y:0<n)(U:i<len):k<(len - i+n - 1) / n↔i+n*k<len:=by
 rw[Nat.lt_iff_add_one_le,Nat.le_div_iff_mul_le Y,TR,UG,xD k n];lia
theorem Yg{α:Type}{xs:List α}{i n:Nat}(Q:0<n)(O:i<xs.length)(U:i<n){x:α}:x∈gW xs i n↔∃j:Nat,j % n=i/\xs[j]?=some x:=by
 unfold gW;rw[UN];constructor
 .rintro⟨j,T,Y⟩;obtain⟨k,N,rfl⟩:=bS.mp T;refine⟨_,?_,Y⟩;rw[Nat.add_mul_mod_self_left,Nat.mod_eq_of_lt U]
 rintro⟨j,T,Y⟩;refine⟨j,bS.mpr ⟨j / n,Et.mpr ((Bn Q O).mpr ?_),?_⟩,Y⟩
 .have:=(dE.mp Y).1;have:=Nat.mod_add_div j n;lia
 have:=Nat.mod_add_div j n;lia
theorem L8{α:Type}{xs:List α}{i n:Nat}(U:0<n)(Y:i<xs.length):∃r,gW xs i n=xs[i]::r:=by
 unfold gW;have h:0<(xs.length - i+n - 1) / n:=(Bn U Y).mpr ao;obtain⟨c,T⟩:∃c,(xs.length - i+n - 1) / n=c+1:=⟨_,(Nat.sub_add_cancel h).symm⟩;rw[T,NM,bM,Nat.mul_zero,C7,vt,cu Y];exact⟨_,rfl⟩
def mJ(fs:List (List Nat)):Option Nat:=match fs with
 |[]=>none
 |Y::_=>Y.find? λn=>fs.all λf=>f.contains n
def NN(Y:List (List Nat))(n:Nat):List (Option Nat):=(List.range n).map λi=>mJ (gW Y i n)
theorem YY(s:List Metre)(l:Line):Sw66.Line.by_ s l=(List.range s.length).filter λk=>match s[k]? with
 |some M=>!(Sw66.scans M l).isEmpty
 |none=>false:=rfl
theorem Vs{s:List Metre}{Y:List Line}{n i:Nat}(O:0<n)(M:i<n)(I:n<=Y.length) :
  mJ (gW (Y.map λl=>Sw66.Line.by_ s l) i n)=(List.range s.length).find? λk=>(Y.map λl=>Sw66.Line.by_ s l).zipIdx.all λx=>x.2 % n != i||x.1.contains k:=by
 have U:i<(Y.map λl=>Sw66.Line.by_ s l).length:=by rw[bG];lia
 obtain⟨r,hr⟩:=L8 O U;have N:=λx=>Yg (x:=x) O U M;have T:∀k,((gW (Y.map λl=>Sw66.Line.by_ s l) i n).all λf=>f.contains k)=((Y.map λl=>Sw66.Line.by_ s l).zipIdx.all λx=>x.2 % n != i||x.1.contains k):=by
  intro k;rw[lU,jV,jV];constructor
  .intro h x Q;rw[ZF]at Q;by_cases c:x.2 % n=i
   .rw[h x.1 ((N x.1).mpr ⟨x.2,c,Q⟩)];simp
   simp[c]
  intro h x Q;obtain⟨j,L,J⟩:=(N x).mp Q;have:=h (x,j) (ZF.mpr J);simpa[L]using this
 unfold mJ;rw[hr];simp only;rw[<-hr];have e0:(Y.map λl=>Sw66.Line.by_ s l)[i]=Sw66.Line.by_ s (Y[i]'ao):=by simp
 rw[e0,YY,List.find?_filter];congr 1;funext k;rw[T k];cases c:((Y.map λl=>Sw66.Line.by_ s l).zipIdx.all λx=>x.2 % n != i||x.1.contains k)with
 |false=>simp
 |true =>
  rw[<-T k,jV]at c;have:=c ((Y.map λl=>Sw66.Line.by_ s l)[i]) (by rw[hr];exact df ..)
  rw[e0,YY]at this;have:=(g6.mp (SR.mp this)).2;rw[this];rfl
theorem mapM_some{α:Type}(f:α->Option Nat):∀(l:List α),l.mapM f=if none∈l.map f then none else some (l.filterMap f)
 |[]=>by simp
 |a::l=>by
  rw[List.mapM_cons,mapM_some f l];cases h:f a with
  |none=>simp[h]
  |some b =>
   by_cases c:none∈l.map f
   .have Y:=c;rw[bS]at Y;simp[h,Y]
   have Y:=c;rw[bS]at Y;simp[h,Y]
theorem map_some{α:Type}(f:α->Option Nat):∀(l:List α),none∉l.map f->l.map f=(l.filterMap f).map some
 |[],_=>rfl
 |a::l,h=>by
  rw[bM,b0,not_or]at h;cases c:f a with
  |none=>exact absurd c.symm h.1
  |some b=>rw[bM,c,vt,c,bM,map_some f l h.2]
def formOf(Y:List (List Nat))(n:Nat):Option (List Nat):=if none∈NN Y n then none else some ((List.range n).filterMap λi=>mJ (gW Y i n))
theorem Lv(s:List Metre)(U:List Line):Sw66.period s U=((List.range U.length).map λn=>n+1).findSome? λn=>if U.length % n≠0 then none else formOf (U.map λl=>Sw66.Line.by_ s l) n:=by
 unfold Sw66.period;simp only;have T:∀(L:List Nat) (f g:Nat->Option (List Nat)),(∀n∈L,f n=g n)->L.findSome? f=L.findSome? g:=by
  intro L f g h
  induction L with
  |nil=>rfl
  |cons a L O=>rw[NX,NX,h a (df ..),O λn Q=>h n (cF _ Q)]
 refine T _ _ _ λn Q=>?_;obtain⟨m,N,rfl⟩:=bS.mp Q;have N:=Et.mp N;split
 .rfl
 rw[mapM_some];unfold formOf NN;have e:∀i∈List.range (m+1),((List.range s.length).find? λk=>(U.map λl=>Sw66.Line.by_ s l).zipIdx.all λx=>x.2 % (m+1) != i||x.1.contains k)=mJ (gW (U.map λl=>Sw66.Line.by_ s l) i (m+1)):=λi M=>(Vs ao (Et.mp M) ao).symm;rw[kZ e,Y e]
where
 Y {α β:Type} {l:List α} {f g:α->Option β} (h:∀a∈l,f a=g a):l.filterMap f=l.filterMap g:=by
  induction l with
  |nil=>rfl
  |cons a l O=>rw[vt,vt,h a (df ..),O λn Q=>h n (cF _ Q)]
end VM
namespace VM
open Sw66 (Syll Alt Cut Metre Line Scan less)
theorem Dc(Y:Nat):∀(r:List (Nat×Nat)) (n:Nat) (x:Nat×Nat×Nat),x∈cU Y n r->(x.1,x.2.1)∈r
 |[],n,x,h=>by simp[cU]at h
 |(m,g)::r,n,x,h=>by
  unfold cU at h;rcases b0.mp h with e|e
  .rw[e];simp
  exact cF _ (Dc Y r (n+1) x e)
theorem Ic(Y T:Nat):∀(U:List dh) (st:List (Nat×Nat×Nat)) (x:Nat×Nat×Nat),x∈(cG Y T U st).2->x∈st\/∃w∈U,(x.1,x.2.1)∈w.2
 |[],st,x,h=>.inl h
 |w::U,st,x,h=>by
  rcases Ic Y T U _ x h with e|⟨Q,O,N⟩
  .rcases lV.mp e with e|e
   .exact .inl e
   exact .inr ⟨w,by simp,Dc _ _ _ _ e⟩
  exact .inr ⟨Q,by simp[O],N⟩
theorem Fg(Y:Nat):∀(gm:GM) (p:Nat) (st:List (Nat×Nat×Nat)) (x:Nat×Nat×Nat),x∈(cY Y p gm st).2->x∈st\/∃U∈gm,∃w∈U,(x.1,x.2.1)∈w.2
 |[],p,st,x,h=>.inl h
 |ways::gm,p,st,x,h=>by
  rcases Fg Y gm _ _ x h with e|⟨U,T,Q⟩
  .rcases Ic _ _ _ _ _ e with e|⟨w,T,Q⟩
   .exact .inl e
   exact .inr ⟨ways,by simp,w,T,Q⟩
  exact .inr ⟨U,by simp[T],Q⟩
theorem PJ(g:Nat->Nat->Nat)(p:Nat):∀(r:List Nat) (j:Nat) (x:Nat×Nat),x∈oI g p j r->x.1∈r/\∃i,x.2=g p i
 |[],j,x,h=>by simp[oI]at h
 |m::r,j,x,h=>by
  unfold oI at h;rcases b0.mp h with e|e
  .rw[e];exact⟨by simp,j,rfl⟩
  obtain⟨a,b⟩:=PJ g p r (j+1) x e;exact⟨cF _ a,b⟩
theorem Ag(g:Nat->Nat->Nat)(wc:Bool):∀(ps:List (List Alt)) (p:Nat) (Y:List dh),Y∈fR g wc p ps->∃as∈ps,∃q,Y=as.map λa=>((if wc=true then a.cost else 0),oI g q 0 a.row)
 |[],p,Y,h=>by simp[fR]at h
 |as::ps,p,Y,h=>by
  unfold fR at h;rcases b0.mp h with e|e
  .exact⟨as,by simp,p,e⟩
  obtain⟨U,T,q,Q⟩:=Ag g wc ps (p+1) Y e;exact⟨U,by simp[T],q,Q⟩
theorem Q7{k b:Nat}:(2 ^ k - 1).testBit b=decide (b<k):=Pu k b
theorem W8{M:Metre}(h:fz M)(p j:Nat):xw (cutsOf M).1 (gF M p j):=by
 obtain⟨Q,I,O⟩:=o4 h;intro b U;rw[O,xC]at U;obtain⟨c,N,Y⟩:=U;rw[gN,lK]at Y;obtain⟨L,J⟩:=o6 M.cuts 0 c.2 c.1 N;cases T:c.1.must with
 |true =>
  have:=(L T).2;left;rw[Q,Q7,dI];lia
 |false =>
  right;rw[<-Y.1];exact J T
theorem PH{M:Metre}(U:fz M)(wc:Bool){x:Nat×Nat×Nat}(h:x∈(ji (cutsOf M).1 (aT M wc)).steps):x.1<4/\xw (cutsOf M).1 x.2.1:=by
 rcases Fg _ _ _ _ _ h with e|⟨I,T,w,Q,O⟩
 .simp at e
 obtain⟨as,N,q,rfl⟩:=Ag _ _ _ _ _ T;obtain⟨a,Y,rfl⟩:=bS.mp Q;obtain⟨L,i,J⟩:=PJ _ _ _ _ _ O;have:=(U.alt as N a Y).2.2 _ L;refine⟨?_,?_⟩
 .show x.1<4;have:x.1<=3:=this.2;lia
 rw[show x.2.1=gF M q i from J];exact W8 U q i
theorem uQ(gm:GM)(all:Nat)(Y:Pos)(os:List Off):bY gm all Y (λ_=>true) os (0,0)=S (aU all gm 0 os):=by
 unfold bY bL;simp only[dy,dB,EV,jW,c9];rw[ub.mpr λ_ _=>rfl]
theorem UJ(gm:GM)(all:Nat)(Y:Pos)(os:List Off){p:Nat}(U:p<=gm.length)(met:Nat):bY gm all Y (λ_=>true) os (p,met)=S (aU all (gm.drop p) met os):=by
 unfold bY bL;simp only[U,dB,jW,c9];rw[ub.mpr λ_ _=>rfl]
section
variable{M:Metre}{l:Line}{wc:Bool}{pos:Pos}
theorem Rj(Q:fz M)(O:eC l){c j:Nat}{ms:List Nat}{F:DL (Nat×Nat)}(Y:∀p∈PP M wc l,c<=p.cost)(h:rE (aT M wc) (cutsOf M).1 pos (bg false l) j ms F) :
  (F.map λe=>fB c (dA (some e.2) (bY (aT M wc) (cutsOf M).1 pos (λ_=>true) ((bg false l).drop j) e.1))).sum=(AM M wc c l j ms).length:=by
 have N:=h λ_=>true;have U:S ((PP M wc l).filter λp=>p.marks.take j==ms)=fsum (bY (aT M wc) (cutsOf M).1 pos (λ_=>true) ((bg false l).drop j)) F:=by
  rw[<-N];unfold PP;simp only[Bool.and_true]
 have T:=KR Q O Y λm=>m.take j==ms;rw[U]at T;have:AM M wc c l j ms=(TL M wc c l).filter λx=>x.marks.take j==ms:=rfl;rw[this,<-T];unfold fsum;rw[JI]
 .rw[cf];rfl
 refine Ss _ λa L=>?_;have J:S ((PP M wc l).filter λp=>p.marks.take j==ms)=some a:=U.trans L;have:=(jk J).1;obtain⟨p,I,e⟩:=bS.mp this;rw[<-e];exact Y p (g6.mp I).1
theorem QZ{i n:Nat}(h:i<=n):(List.range n).take i=List.range i:=by
 rw[List.take_range,Nat.min_eq_left h]
def Pp(M:Metre)(wc:Bool)(c:Nat)(l:Line)(j:Nat)(Y:List Nat)(i:Nat):Nat:=((List.range i).map λu=>(AM M wc c l (j+1) (Y++[u])).length).sum
theorem Yt{c j:Nat}{Y:List Nat}{i:Nat}:Pp M wc c l j Y (i+1)=Pp M wc c l j Y i+(AM M wc c l (j+1) (Y++[i])).length:=by
 unfold Pp;rw[JD,jK,Ue];simp
theorem abh(T:fz M)(Q:eC l){c j:Nat}{Y:List Nat}(O:j<l.length)(U:Y.length=j):(AM M wc c l j Y).length=Pp M wc c l j Y 4:=by
 rw[RC T Q O U,fw];rfl
theorem aa0(T:fz M)(Q:eC l){c j:Nat}{Y:List Nat}(O:j<l.length)(U:Y.length=j){i b:Nat}(N:i<4)(L:b<(AM M wc c l (j+1) (Y++[i])).length) :
  (AM M wc c l j Y)[Pp M wc c l j Y i+b]?=(AM M wc c l (j+1) (Y++[i]))[b]?:=by
 rw[RC T Q O U];have:=yc (λv=>AM M wc c l (j+1) (Y++[v])) (List.range 4) i i b (by rw[NG N]) L
 rw[QZ ao]at this;exact this
theorem Vx(O:eC l){j:Nat}{o:Off}(h:(bg false l)[j]?=some o):o.mj=true->(bg false l).drop (j+1)≠[]:=by
 intro U e;have N:=(dE.mp h).1;have T:(bg false l).length<=j+1:=ZN.mp e;have Y:(bg false l).length=l.length:=by simp[bg]
 obtain⟨s,Q,M⟩:=O.last;have L:j=l.length - 1:=by lia
 rw[T8]at Q;unfold bg at h;rw[cM,L,Q]at h;have:=cp h;rw[<-this]at U;have:0<s.join:=by simpa[b9]using U
 lia
end
theorem ZR{c:Nat}{l:List Nat}(h:∀x∈l,c<=x)(Y:c∈l):eS l=some (c,l.count c):=by
 cases U:eS l with
 |none=>rw[o9.mp U]at Y;simp at Y
 |some a =>
  obtain⟨T,Q,O⟩:=jk U;have e:a.1=c:=Nat.le_antisymm (Q c Y) (h a.1 T);obtain⟨N,M⟩:=a;dsimp only at *;subst e;rw[O]
def nY(all:Nat)(rest:GM)(os:List Off)(met cc least:Nat)(w:dh)(i:Nat):List (List Nat×Nat):=(mz all rest os met w i).filter λy=>cc+y.2==least
def gM(all:Nat)(gm:GM)(os:List Off)(met cc least:Nat):List (List Nat×Nat):=(pF all gm met os).filter λy=>cc+y.2==least
theorem LV{all:Nat}(Y:all<=15)(ways:List dh)(rest:GM)(met cc least:Nat)(os:List Off)(U:kO os)(T:jy os):gM all (ways::rest) os met cc least=ways.zipIdx.flatMap λw=>nY all rest os met cc least w.1 w.2:=by
 unfold gM nY;rw[KZ Y ways rest met os U T,S8]
def wS(all:Nat)(rest:GM)(os:List Off)(met cc least:Nat)(ways:List dh)(i:Nat):Nat:=((ways.zipIdx.take i).map λw=>(nY all rest os met cc least w.1 w.2).length).sum
theorem Eo{α:Type}{l:List α}{i:Nat}{x:α}(h:l[i]?=some x):l.zipIdx[i]?=some (x,i):=by
 rw[Tf,h];simp
theorem Sm{all:Nat}{rest:GM}{os:List Off}{met cc least:Nat}{ways:List dh}{i:Nat}{w:dh}(h:ways[i]?=some w):wS all rest os met cc least ways (i+1)=wS all rest os met cc least ways i+(nY all rest os met cc least w i).length:=by
 unfold wS;have hz:=Eo h;have Y:=(dE.mp hz).1;have U:=(dE.mp hz).2;rw[Ke Y,jK,Ue,U];simp
theorem abH{all:Nat}(Y:all<=15){rest:GM}{os:List Off}{met cc least:Nat}{ways:List dh}(U:kO os)(T:jy os):(gM all (ways::rest) os met cc least).length=wS all rest os met cc least ways ways.length:=by
 rw[LV Y ways rest met cc least os U T,fw];unfold wS;rw[CJ aP]
theorem ace{all:Nat}(Y:all<=15){rest:GM}{os:List Off}{met cc least:Nat}{ways:List dh}(U:kO os)(T:jy os){i b:Nat}{w:dh}(h:ways[i]?=some w)(Q:b<(nY all rest os met cc least w i).length) :
  (gM all (ways::rest) os met cc least)[wS all rest os met cc least ways i+b]?=(nY all rest os met cc least w i)[b]?:=by
 rw[LV Y ways rest met cc least os U T];exact yc (λw:dh×Nat=>nY all rest os met cc least w.1 w.2) ways.zipIdx i (w,i) b (Eo h) Q
theorem UA{all:Nat}{rest:GM}{os:List Off}{met cc least:Nat}{w:dh}{i:Nat}(h:fX os w.2 met=none):nY all rest os met cc least w i=[]:=by
 unfold nY mz;rw[h];rfl
theorem Ug{all:Nat}{rest:GM}{os:List Off}{met cc least:Nat}{w:dh}{i:Nat}{x:List Off×Nat}(h:fX os w.2 met=some x):nY all rest os met cc least w i=(gM all rest x.1 x.2 (cc+w.1) least).map λy=>(i::y.1,w.1+y.2):=by
 unfold nY mz gM;rw[h];simp only[ra];congr 1;apply ni;intro y _;simp[Bb]
theorem TJ{all:Nat}{gm:GM}{os:List Off}{met cc least:Nat}(Y:∀y∈pF all gm met os,least<=cc+y.2):fB least (dA (some (cc,1)) (S (aU all gm met os)))=(gM all gm os met cc least).length:=by
 have e:dA (some (cc,1)) (S (aU all gm met os))=eS ((pF all gm met os).map λy=>cc+y.2):=by
  rw[<-RS];unfold S pF;rw[<-uX,cf,cf];rfl
 rw[e,Ju]
 .unfold gM;rw[Ul,Nh,SY];rfl
 intro x U;obtain⟨y,T,rfl⟩:=bS.mp U;exact Y y T
theorem ab3{all:Nat}(Y:all<=15){ways:List dh}{rest:GM}{met:Nat}{os:List Off}(U:kO os)(T:jy os){i:Nat}{w:dh}(h:ways[i]?=some w){x:List Off×Nat}(Q:fX os w.2 met=some x){y:List Nat×Nat}(O:y∈pF all rest x.2 x.1):(i::y.1,w.1+y.2)∈pF all (ways::rest) met os:=by
 rw[KZ Y ways rest met os U T,G3];refine⟨(w,i),cI (Eo h),?_⟩;unfold mz;rw[Q];exact bS.mpr ⟨y,O,rfl⟩
theorem LZ:∀(os:List Off) (Y:List Nat) (o:Off) (v:Nat),Y.length=os.length->pins (os++[o]) (Y++[v])=pins os Y++if v=0 then[]else[jg o v]
 |[],[],o,v,_=>by
  simp only[vn,pins]
 |Q::os,T::Y,o,v,h=>by
  have U:=LZ os Y o v (by simpa using h)
  simp only[rQ,pins];by_cases c:T=0
  .rw[ag c,ag c,U]
  rw[ae c,ae c,U];rfl
 |[],_::_,_,_,h=>by simp at h
 |_::_,[],_,_,h=>by simp at h
theorem vx:∀(os:List Off) (Y:List Nat) (x:Off),x∈pins os Y->∃o∈os,∃v,v≠0/\x=jg o v
 |[],_,x,h=>by simp[pins]at h
 |_::_,[],x,h=>by simp[pins]at h
 |o::os,v::Y,x,h=>by
  unfold pins at h;by_cases c:v=0
  .rw[ag c]at h;obtain⟨U,T,Q⟩:=vx os Y x h;exact⟨U,by simp[T],Q⟩
  rw[ae c]at h;rcases b0.mp h with e|e
  .exact⟨o,by simp,v,c,e⟩
  obtain⟨U,T,Q⟩:=vx os Y x e;exact⟨U,by simp[T],Q⟩
theorem Gf:∀(os:List Off) (Y:List Nat),(pins os Y).length<=os.length
 |[],_=>by simp[pins]
 |_::_,[]=>by simp[pins]
 |o::os,v::Y=>by
  unfold pins;have:=Gf os Y;split
  .simp;lia
  simp;lia
theorem Q2(os:List Off)(Y:List Nat):kO (pins os Y):=λx U=>by
 obtain⟨o,_,v,T,rfl⟩:=vx os Y x U;show(v==0)=false;simpa using T
theorem Wx{os:List Off}(h:jy os)(Y:List Nat):jy (pins os Y):=λx U=>by
 obtain⟨o,T,v,Q,rfl⟩:=vx os Y x U;exact h o T
section
variable{M:Metre}{l:Line}{wc:Bool}
theorem UI(Q:fz M)(O:eC l){c:Nat}{ms:List Nat}(H:∀p∈PP M wc l,c<=p.cost)(U:AM M wc c l l.length ms≠[]) :
  (∃n,S (aU (cutsOf M).1 (aT M wc) 0 (pins (bg false l) ms))=some (c,n))/\∀y∈pF (cutsOf M).1 (aT M wc) 0 (pins (bg false l) ms),c<=0+y.2:=by
 obtain⟨x,N⟩:=YM _ U;have L:=g6.mp N;have G:=g6.mp L.1;obtain⟨E,s,r,J⟩:=dM Q O G.1;have D:x.marks=ms:=by
  have:=L.2;rw[lK,<-E,eG]at this;exact this
 rw[D]at J;have T:=C8 (cutsOf M).1 (aT M wc) 0 (bg false l) ms J (vo l);have I:∀y∈pF (cutsOf M).1 (aT M wc) 0 (pins (bg false l) ms),c<=y.2:=λy Y=>by
  unfold pF at Y;rw[<-T]at Y;obtain⟨p,C,rfl⟩:=bS.mp Y;exact H p (g6.mp C).1
 refine⟨?_,λy Y=>by rw[wL];exact I y Y⟩
 have B:S (aU (cutsOf M).1 (aT M wc) 0 (pins (bg false l) ms))=eS ((pF (cutsOf M).1 (aT M wc) 0 (pins (bg false l) ms)).map (·.2)):=by
  unfold S pF;rw[cf];rfl
 rw[B];refine⟨_,ZR (λz hz=>?_) ?_⟩
 .obtain⟨y,Y,rfl⟩:=bS.mp hz;exact I y Y
 have A:=RL Q O U;have:x.alts∈(AM M wc c l l.length ms).map (·.alts):=bS.mpr ⟨x,N,rfl⟩;rw[A]at this;obtain⟨y,Y,_⟩:=bS.mp this;obtain⟨v,u⟩:=g6.mp Y;exact bS.mpr ⟨y,v,by simpa using u⟩
theorem K7(all:Nat)(gm:GM)(os:List Off)(met least:Nat):gM all gm os met 0 least=(pF all gm met os).filter λy=>y.2==least:=by
 unfold gM;apply ni;intro y _;simp
end
theorem IM{α:Type}(f:α->Nat)(B:Nat):∀l:List α,(∀x∈l,f x<=B)->(l.map f).sum<=l.length*B
 |[],_=>by simp
 |x::l,h=>by
  have:=IM f B l λy Y=>h y (by simp[Y])
  have:=h x aP;rw[bM,js,cT,Nat.succ_mul];lia
theorem Ap(k:Nat->List Off->List Path)(B:Nat)(Y:∀met os,(k met os).length<=B*2 ^ os.length):∀(os:List Off) (row:List (Nat×Nat)) (met:Nat),(bP k os row met).length<=B*2 ^ os.length
 |os,[],met=>by rw[c9];exact Y met os
 |[],m::r,met=>by simp[bP]
 |o::os,(m,g)::r,met=>by
  have U:=Ap k B Y os ((m,g)::r) met;have T:=Ap k B Y os r (bQ met g o.we);have e:B*2 ^ (o::os).length=B*2 ^ os.length+B*2 ^ os.length:=by
   rw[cT,yp,<-Eu,Nat.mul_two]
  rw[e];unfold bP;rw[ee];refine Nat.add_le_add ?_ ?_
  .split
   .rw[bG];exact U
   exact dy _
  split
  .exact dy _
  rw[bG];exact T
theorem Lf(all:Nat):∀(gm:GM) (met:Nat) (os:List Off),(∀Y∈gm,Y.length<=3)->(aU all gm met os).length<=3 ^ gm.length*2 ^ os.length
 |[],met,os,_=>by
  have:1<=2 ^ os.length:=ZM;unfold aU;split
  .simpa using this
  simp
 |ways::gm,met,os,h=>by
  have T:=λmet os=>Lf all gm met os λY U=>h Y (by simp[U])
  have Q:=h ways aP;unfold aU;rw[fw];refine bT (IM _ (3 ^ gm.length*2 ^ os.length) _ λx _=>?_) ?_
  .rw[bG];exact Ap _ _ T os _ _
  rw[List.length_zipIdx,cT,yp,xD (3 ^ gm.length) 3,Eu];exact YD _ Q
theorem ac2{ps:List Path}{a:Nat×Nat}(h:S ps=some a):a.2<=ps.length:=by
 have:=(jk h).2.2;rw[this];exact bT List.count_le_length (by rw[bG];exact bD _)
theorem LP{gm:GM}{t:jo}{Y:Pos}(T:pZ gm t Y):∀(row:List (Nat×Nat)) (n:Nat) (rest:GM),bL gm Y n=some (row,rest)->∃k,rest=gm.drop k
 |row,n,rest,h=>by
  by_cases c:n<=gm.length
  .unfold bL at h;rw[ag c]at h;exact⟨n,(IT (cp h)).2.symm⟩
  obtain⟨m,g,a,r,U,L,Q,O⟩:=kR T (n:=n) (by rw[h];rfl) (by rw[T.goal];lia)
  rw[h]at Q;obtain⟨N,M⟩:=IT (cp Q);subst N M;exact LP T r a rest O
termination_by row=>row.length
theorem Z4{gm:GM}{t:jo}{Y:Pos}(T:pZ gm t Y){all:Nat}{os:List Off}{n met:Nat}{p:Nat×Nat}(M:∀U∈gm,U.length<=3)(H:gm.length<=8)(Q:os.length<=24)(h:bY gm all Y (λ_=>true) os (n,met)=some p):p.2<18446744073709551616:=by
 unfold bY at h;dsimp only at h;cases O:bL gm Y n with
 |none=>rw[O]at h;cases h
 |some x =>
  rw[O]at h;obtain⟨row,rest⟩:=x;obtain⟨k,rfl⟩:=LP T row n rest O;dsimp only at h;unfold jW at h;have L:=ac2 h;rw[ub.mpr λ_ _=>rfl]at L;have G:=Ap (aU all (gm.drop k)) (3 ^ (gm.drop k).length) (λmet os=>Lf all _ met os λU N=>M U (NB N)) os row met;have J:3 ^ (gm.drop k).length<=3 ^ 8:=yx aG (by rw[Nm];lia)
  have I:2 ^ os.length<=2 ^ 24:=yx aG Q;have E:=Nat.mul_le_mul J I;have D:3 ^ 8*2 ^ 24<18446744073709551616:=by decide
  lia
end VM
namespace VM
def zW:List Sw66.Metre->List (List Int)->List (List Int)
 |_,[]=>[]
 |s,c::r=>(Sw66Neutral.step s c).2::zW (Sw66Neutral.step s c).1 r
theorem Fx:∀(Y:List (List Int)) (s:List Sw66.Metre),PyFlat.played (λs c=>Sw66Neutral.step s (c.headD [])) s (Y.map λc=>[c])=zW s Y
 |[],s=>rfl
 |c::Y,s=>by
  rw[bM];unfold PyFlat.played zW;rw[Fx Y];rfl
theorem Ui{U:List Int}(h:PySw66.answers_asked U=true):∃rs:List (List Int),U=rs.flatMap rh/\rs.length<=60/\(∀c∈rs,∃x,Sw66Neutral.callOf c=some x)/\Sw66Neutral.many Sw66Neutral.start rs<=1000000/\PySw66.answers U=PyFlat.told (zW [] rs):=by
 unfold PySw66.answers_asked at h;unfold PySw66.answers;unfold PySw66.calls at h ⊢;cases T:PyFlat.calls PySw66.shape U.length U with
 |none=>rw[T]at h;cases h
 |some Q =>
  rw[T]at h;obtain⟨rs,O,N⟩:=Jq _ _ _ T;have M:Q.map PySw66.whole=rs.map λc=>[c]:=by
   rw[O,cf];rfl
  dsimp only at h ⊢;rw[M]at h ⊢;rw[gN]at h;obtain⟨J,Y⟩:=h;rw[cf]at Y;have L:(rs.map ((λc:List (List Int)=>c.headD []) ∘ λc=>[c]))=rs:=by
   rw[show((λc:List (List Int)=>c.headD []) ∘ λc:List Int=>[c])=id from rfl,List.map_id]
  rw[L]at Y;unfold Sw66Neutral.asked at Y;simp only[gN,dI,jV]at Y;refine⟨rs,N,Y.2.2.1,λc T=>Uq.mp (Y.1 c T),Y.2.2.2,?_⟩;rw[Fx];rfl
theorem WW{s:List Sw66.Metre}(h:s.length<=8)(x:Sw66.Call):(Sw66.step s x).1.length<=8:=by
 cases x<;>unfold Sw66.step<;>dsimp only
 .exact dy _
 .split
  .exact h
  split
  .exact h
  rename_i q;have:¬8<=s.length:=q;rw[ee];simp;lia
 all_goals (repeat' split)<;>exact h
theorem ab6{s:List Sw66.Metre}{c:List Int}{x:Sw66.Call}(h:Sw66Neutral.callOf c=some x):Sw66Neutral.step s c=((Sw66.step s x).1,Sw66Neutral.out (Sw66.step s x).2):=by
 unfold Sw66Neutral.step;rw[h]
end VM
namespace VS
open PySem PySem.W L2
def Kt(k u:L2.St->Hp->Prop):Prop:=∀σ H,u σ H->k σ H
theorem ab4{k u:L2.St->Hp->Prop}{σ:L2.St}{H:Hp}(h:Kt k u)(g:u σ H):k σ H:=h σ H g
theorem ZU{t u:L2.TS}{D:L2.Ends}{σ:L2.St}{H:Hp}(h:∀k,Kt k (u D)->t { D with nx:=k } σ H):Xg t u D σ H:=h _ λ_ _ q=>q
end VS
namespace VS
open PySem PySem.Spec PyProof.Rows L2 LX
section
def top(i:Nat):Stmt:=PySem.Challenge.pw_versescan_s01_answers.main.body.getD i (.Pass ⟨0,0,0,0⟩)
abbrev yQ:Stmt:=inClass (top 1) 0
abbrev wk:Stmt:=inClass (top 2) 0
abbrev sR:Stmt:=inClass (top 3) 0
abbrev qk:Stmt:=inClass (top 4) 0
abbrev vA:Stmt:=inClass (top 5) 0
abbrev E9:Stmt:=inClass (top 14) 0
abbrev Df:Stmt:=top 15
abbrev Fq:Stmt:=top 16
abbrev DN:Stmt:=top 17
abbrev JG:Stmt:=top 18
abbrev JV:Stmt:=inClass (top 27) 0
abbrev HM:Stmt:=inClass (top 28) 0
abbrev DZ:Stmt:=inClass (top 29) 0
abbrev Io:Stmt:=top 30
abbrev DV:Stmt:=top 31
abbrev FK:Stmt:=top 32
abbrev HU:Stmt:=top 33
abbrev wM:Stmt:=top 34
abbrev pq:Stmt:=top 35
abbrev tj:Stmt:=top 36
abbrev Ek:Stmt:=top 37
abbrev DA:Stmt:=inClass (top 41) 0
abbrev B3:Stmt:=top 42
abbrev BZ:Stmt:=top 43
abbrev Fl:Stmt:=top 44
abbrev BN:Stmt:=top 45
abbrev DR:Stmt:=top 46
abbrev uF:Stmt:=top 47
abbrev Fh:Stmt:=top 49
abbrev uI:Stmt:=top 50
abbrev zE:Stmt:=top 51
abbrev y3:Stmt:=top 52
abbrev xn:Stmt:=top 53
abbrev Cd:Stmt:=inClass (top 55) 0
abbrev uJ:Stmt:=inClass (top 55) 1
abbrev B5:Stmt:=inClass (top 55) 2
abbrev uL:Stmt:=inClass (top 55) 3
abbrev DO:Stmt:=inClass (top 57) 0
abbrev Hy:Stmt:=top 58
abbrev Fe:Stmt:=top 59
abbrev QE:Stmt:=top 60
abbrev FC:Stmt:=top 62
abbrev D7:Stmt:=top 63
abbrev y6:Stmt:=top 64
abbrev yS:Stmt:=top 65
abbrev Dh:Stmt:=top 66
abbrev CI:Stmt:=top 67
abbrev yX:Stmt:=top 68
abbrev xa:Stmt:=top 69
abbrev Iq:Stmt:=top 70
abbrev qV:Stmt:=top 71
abbrev zq:Stmt:=top 72
abbrev BF:Stmt:=top 73
abbrev BK:Stmt:=inClass (top 76) 0
abbrev DB:Stmt:=inClass (top 77) 0
abbrev BE:Stmt:=top 78
abbrev zC:Stmt:=top 79
abbrev DX:Stmt:=top 80
abbrev FN:Stmt:=top 81
abbrev Fc:Stmt:=top 82
abbrev FQ:Stmt:=inClass (top 84) 0
abbrev D4:Stmt:=inClass (top 85) 0
abbrev tq:Stmt:=inClass (top 85) 1
abbrev wY:Stmt:=inClass (top 85) 2
abbrev xi:Stmt:=inClass (top 85) 3
abbrev xj:Stmt:=inClass (top 87) 0
abbrev xy:Stmt:=top 88
abbrev zx:Stmt:=top 89
abbrev qS:Stmt:=top 90
abbrev yM:Stmt:=top 91
abbrev By:Stmt:=top 94
abbrev Jm:Stmt:=top 95
abbrev Pn:Stmt:=top 96
abbrev Sd:Stmt:=top 97
abbrev R9:Stmt:=top 98
abbrev Vn:Stmt:=top 99
abbrev JO:Stmt:=top 100
abbrev RU:Stmt:=top 101
abbrev SA:Stmt:=top 102
abbrev Vu:Stmt:=top 103
abbrev Sv:Stmt:=top 104
abbrev Ft:Stmt:=top 106
abbrev LH:Stmt:=top 107
set_option genInjectivity false in
set_option genSizeOf false in
structure Ad where
 Refusal:Addr
 xq:Addr
 sL:Addr
 nW:Addr
 wR:Addr
 Line:Addr
 Way:Addr
 Cut:Addr
 Metre:Addr
 iF:Addr
 Reader:Addr
 gZ:Addr
 Picked:Addr
 gG:Addr
 Step:Addr
 gu:Addr
 dj:Addr
 iz:Addr
 fg:FuncData
 mU:Addr
 nh:FuncData
 kI:Addr
 k9:FuncData
 i6:Addr
 jP:FuncData
 mW:Addr
 nO:FuncData
 Cz:Addr
 vm:FuncData
 AO:Addr
 tI:FuncData
 Dy:Addr
 vM:FuncData
 AE:Addr
 tW:FuncData
 lX:Addr
 yj:FuncData
 Gn:Addr
 yu:FuncData
 Hk:Addr
 xS:FuncData
 AW:Addr
 t9:FuncData
 Gx:Addr
 xV:FuncData
 Bh:Addr
 uk:FuncData
 DS:Addr
 vL:FuncData
 Gs:Addr
 yr:FuncData
 rb:Addr
 nB:FuncData
 mi:Addr
 jT:FuncData
 oF:Addr
 lg:FuncData
 Br:Addr
 tP:FuncData
 AZ:Addr
 uj:FuncData
 ya:Addr
 rN:FuncData
 yt:Addr
 rA:FuncData
 Eb:Addr
 vG:FuncData
 xM:Addr
 rT:FuncData
 zV:Addr
 tX:FuncData
 pA:Addr
 mw:FuncData
 CQ:Addr
 wG:FuncData
 pU:Addr
 lN:FuncData
 vH:Addr
 pL:FuncData
 wB:Addr
 qH:FuncData
 tF:Addr
 oW:FuncData
 ym:Addr
 rS:FuncData
 pS:Addr
 l9:FuncData
 r6:Addr
 mZ:FuncData
 pJ:Addr
 lO:FuncData
 An:Addr
 tO:FuncData
 GW:Addr
 xW:FuncData
 CB:Addr
 vT:FuncData
 pinned:Addr
 DU:FuncData
 Eh:Addr
 wI:FuncData
 Bp:Addr
 tL:FuncData
 vR:Addr
 pX:FuncData
 wb:Addr
 pd:FuncData
 AL:Addr
 ui:FuncData
 Ar:Addr
 t7:FuncData
 vJ:Addr
 qr:FuncData
 t4:Addr
 oy:FuncData
 GF:Addr
 yk:FuncData
 nu:Addr
 kK:FuncData
 wz:Addr
 qE:FuncData
 xU:Addr
 rJ:FuncData
 yC:Addr
 qZ:FuncData
 AX:Addr
 uv:FuncData
 xX:Addr
 rC:FuncData
 wJ:Addr
 pI:FuncData
 AK:Addr
 uw:FuncData
 CP:Addr
 vp:FuncData
 D6:Addr
 wg:FuncData
 Em:Addr
 vy:FuncData
 Ao:Addr
 tH:FuncData
 ot:Addr
 k6:FuncData
 tG:Addr
 oP:FuncData
 tY:Addr
 oB:FuncData
 uu:Addr
 oA:FuncData
 tV:Addr
 oJ:FuncData
 vU:Addr
 qc:FuncData
 m9:Addr
 ke:FuncData
 wA:Addr
 pW:FuncData
 xZ:Addr
 rn:FuncData
 Ha:Addr
 yf:FuncData
 begins:Addr
 DY:FuncData
 metre:Addr
 GO:FuncData
 scans:Addr
 Hd:FuncData
 scan:Addr
 Ku:FuncData
 cheapest:Addr
 yq:FuncData
 which:Addr
 F5:FuncData
 mends:Addr
 GB:FuncData
 poem:Addr
 Kd:FuncData
 forms:Addr
 G8:FuncData
 Cy:Addr
 vh:FuncData
 answers:Addr
 qA:FuncData
structure Txt(K:W.Frag)(mg:Str->Option Value)(t:Ad):Prop where
 qG:mg "Refusal"=some (.ref t.Refusal)
 pz:mg "NotAsTold"=some (.ref t.xq)
 zr:mg "NoSuchMetre"=some (.ref t.sL)
 Gb:mg "TooManyMetres"=some (.ref t.nW)
 vE:mg "NoneThere"=some (.ref t.wR)
 ZY:mg "Line"=some (.ref t.Line)
 eA:j9 K t.Line
 aaG:Mk K t.Line t.Cz
 gJ:bC K t.Line "weights"
 eQ:bC K t.Line "joins"
 pT:bC K t.Line "ends"
 aaW:mg "Way"=some (.ref t.Way)
 ph:j9 K t.Way
 aaL:Mk K t.Way t.Gn
 sM:bC K t.Way "cost"
 qg:bC K t.Way "row"
 aaM:mg "Cut"=some (.ref t.Cut)
 zo:j9 K t.Cut
 aaP:Mk K t.Cut t.Hk
 yV:bC K t.Cut "must_be"
 pV:bC K t.Cut "spots"
 XG:mg "Metre"=some (.ref t.Metre)
 fm:j9 K t.Metre
 Ye:Mk K t.Metre t.AW
 jh:bC K t.Metre "places"
 ig:bC K t.Metre "all_met"
 mY:bC K t.Metre "gains"
 Ga:mg "Lanes"=some (.ref t.iF)
 eF:j9 K t.iF
 Gm:Mk K t.iF t.AZ
 B0:bC K t.iF "last"
 gQ:bC K t.iF "may_join"
 iw:bC K t.iF "fitting"
 o5:bC K t.iF "fitting_ends"
 m5:bC K t.iF "fitting_within"
 K8:mg "Reader"=some (.ref t.Reader)
 bj:j9 K t.Reader
 LM:Mk K t.Reader t.ym
 jE:bC K t.Reader "numbers"
 ir:bC K t.Reader "at"
 CC:Meth K t.Reader "has_more" t.pS
 bA:Meth K t.Reader "take" t.r6
 l6:Meth K t.Reader "take_row" t.pJ
 O6:mg "Offer"=some (.ref t.gZ)
 fC:j9 K t.gZ
 Oh:Mk K t.gZ t.An
 nM:bC K t.gZ "may_join"
 jU:bC K t.gZ "taken"
 qK:bC K t.gZ "prices"
 mf:bC K t.gZ "word_ends"
 Ln:mg "Picked"=some (.ref t.Picked)
 eY:j9 K t.Picked
 LB:Mk K t.Picked t.yC
 eD:bC K t.Picked "numbers"
 gp:bC K t.Picked "ahead"
 P7:mg "Stand"=some (.ref t.gG)
 eT:j9 K t.gG
 Of:Mk K t.gG t.AX
 fE:bC K t.gG "syllable"
 j4:bC K t.gG "met"
 uD:bC K t.gG "cost"
 aay:mg "Step"=some (.ref t.Step)
 jR:j9 K t.Step
 Z9:Mk K t.Step t.Em
 jO:bC K t.Step "member"
 C9:bC K t.Step "gain"
 nX:bC K t.Step "after"
 O2:mg "Track"=some (.ref t.gu)
 bU:j9 K t.gu
 Pr:Mk K t.gu t.Ao
 kf:bC K t.gu "all_met"
 dR:bC K t.gu "goal"
 jY:bC K t.gu "steps"
 j3:bC K t.gu "forks"
 ll:Meth K t.gu "node_count" t.ot
 wF:Meth K t.gu "step_at" t.tG
 GY:Meth K t.gu "lay_row" t.tY
 QS:mg "Scansion"=some (.ref t.dj)
 dS:j9 K t.dj
 QO:Mk K t.dj t.uu
 uH:bC K t.dj "count"
 jM:bC K t.dj "syllables"
 kC:bC K t.dj "ways"
 oS:bC K t.dj "cost"
 xo:bJ K "__init__" "Refusal.__init__" yQ t.iz t.fg
 uE:bJ K "__init__" "NotAsTold.__init__" wk t.mU t.nh
 qW:bJ K "__init__" "NoSuchMetre.__init__" sR t.kI t.k9
 o7:bJ K "__init__" "TooManyMetres.__init__" qk t.i6 t.jP
 uG:bJ K "__init__" "NoneThere.__init__" vA t.mW t.nO
 Ds:bJ K "__init__" "Line.__init__" E9 t.Cz t.vm
 tR:bJ K "is_as_told" "is_as_told" Df t.AO t.tI
 MX:mg "is_as_told"=some (.ref t.AO)
 f6:bJ K "read_line" "read_line" Fq t.Dy t.vM
 jS:mg "read_line"=some (.ref t.Dy)
 n6:bJ K "read_lines" "read_lines" DN t.AE t.tW
 B7:mg "read_lines"=some (.ref t.AE)
 sC:bJ K "taken_as" "taken_as" JG t.lX t.yj
 FY:mg "taken_as"=some (.ref t.lX)
 FA:bJ K "__init__" "Way.__init__" JV t.Gn t.yu
 FJ:bJ K "__init__" "Cut.__init__" HM t.Hk t.xS
 Bz:bJ K "__init__" "Metre.__init__" DZ t.AW t.t9
 xY:bJ K "read_way" "read_way" Io t.Gx t.xV
 Rn:mg "read_way"=some (.ref t.Gx)
 tU:bJ K "read_place" "read_place" DV t.Bh t.uk
 My:mg "read_place"=some (.ref t.Bh)
 wo:bJ K "read_spot" "read_spot" FK t.DS t.vL
 QG:mg "read_spot"=some (.ref t.DS)
 yy:bJ K "read_cut" "read_cut" HU t.Gs t.yr
 QR:mg "read_cut"=some (.ref t.Gs)
 nF:bJ K "way_is_as_told" "way_is_as_told" wM t.rb t.nB
 E4:mg "way_is_as_told"=some (.ref t.rb)
 jX:bJ K "places_are_as_told" "places_are_as_told" pq t.mi t.jT
 zi:mg "places_are_as_told"=some (.ref t.mi)
 kY:bJ K "cuts_are_as_told" "cuts_are_as_told" tj t.oF t.lg
 Ce:mg "cuts_are_as_told"=some (.ref t.oF)
 ua:bJ K "read_metre" "read_metre" Ek t.Br t.tP
 MW:mg "read_metre"=some (.ref t.Br)
 BL:bJ K "__init__" "Lanes.__init__" DA t.AZ t.uj
 j2:bJ K "lanes_where" "lanes_where" B3 t.ya t.rN
 rM:mg "lanes_where"=some (.ref t.ya)
 hR:bJ K "with_joined" "with_joined" BZ t.yt t.rA
 mF:mg "with_joined"=some (.ref t.yt)
 j5:bJ K "add_lanes" "add_lanes" Fl t.Eb t.vG
 pK:mg "add_lanes"=some (.ref t.Eb)
 rK:bJ K "past_member" "past_member" BN t.xM t.rT
 Kj:mg "past_member"=some (.ref t.xM)
 tN:bJ K "past_place" "past_place" DR t.zV t.tX
 MZ:mg "past_place"=some (.ref t.zV)
 gg:bJ K "count_scansions" "count_scansions" uF t.pA t.mw
 my:mg "count_scansions"=some (.ref t.pA)
 pQ:bJ K "metres_of" "metres_of" Fh t.CQ t.wG
 Cu:mg "metres_of"=some (.ref t.CQ)
 mC:bJ K "scansion_counts" "scansion_counts" uI t.pU t.lN
 D0:mg "scansion_counts"=some (.ref t.pU)
 qu:bJ K "shared_metre" "shared_metre" zE t.vH t.pL
 Jr:mg "shared_metre"=some (.ref t.vH)
 qf:bJ K "form_of_size" "form_of_size" y3 t.wB t.qH
 Hx:mg "form_of_size"=some (.ref t.wB)
 oQ:bJ K "shortest_form" "shortest_form" xn t.tF t.oW
 Gp:mg "shortest_form"=some (.ref t.tF)
 zO:bJ K "__init__" "Reader.__init__" Cd t.ym t.rS
 sZ:bJ K "has_more" "Reader.has_more" uJ t.pS t.l9
 y9:bJ K "take" "Reader.take" B5 t.r6 t.mZ
 tD:bJ K "take_row" "Reader.take_row" uL t.pJ t.lO
 BG:bJ K "__init__" "Offer.__init__" DO t.An t.tO
 xN:bJ K "offer_of" "offer_of" Hy t.GW t.xW
 Rb:mg "offer_of"=some (.ref t.GW)
 pC:bJ K "offers_of" "offers_of" Fe t.CB t.vT
 CZ:mg "offers_of"=some (.ref t.CB)
 Ep:bJ K "pinned" "pinned" QE t.pinned t.DU
 V5:mg "pinned"=some (.ref t.pinned)
 jI:bJ K "add_paths" "add_paths" FC t.Eh t.wI
 pw:mg "add_paths"=some (.ref t.Eh)
 kM:bJ K "met_behind" "met_behind" D7 t.Bp t.tL
 uh:mg "met_behind"=some (.ref t.Bp)
 pH:bJ K "step_endings" "step_endings" y6 t.vR t.pX
 JA:mg "step_endings"=some (.ref t.vR)
 qb:bJ K "fork_endings" "fork_endings" yS t.wb t.pd
 IZ:mg "fork_endings"=some (.ref t.wb)
 n9:bJ K "fill_forks" "fill_forks" Dh t.AL t.ui
 Bw:mg "fill_forks"=some (.ref t.AL)
 tS:bJ K "last_table" "last_table" CI t.Ar t.t7
 MF:mg "last_table"=some (.ref t.Ar)
 pD:bJ K "table_before" "table_before" yX t.vJ t.qr
 Ir:mg "table_before"=some (.ref t.vJ)
 ib:bJ K "ending_tables" "ending_tables" xa t.t4 t.oy
 oo:mg "ending_tables"=some (.ref t.t4)
 kW:bJ K "least_of" "least_of" Iq t.GF t.yk
 rZ:mg "least_of"=some (.ref t.GF)
 gU:bJ K "spread_over_forks" "spread_over_forks" qV t.nu t.kK
 ql:mg "spread_over_forks"=some (.ref t.nu)
 pN:bJ K "front_behind" "front_behind" zq t.wz t.qE
 JM:mg "front_behind"=some (.ref t.wz)
 mM:bJ K "count_least" "count_least" BF t.xU t.rJ
 yK:mg "count_least"=some (.ref t.xU)
 zS:bJ K "__init__" "Picked.__init__" BK t.yC t.qZ
 Cb:bJ K "__init__" "Stand.__init__" DB t.AX t.uv
 qY:bJ K "pick_values" "pick_values" BE t.xX t.rC
 KH:mg "pick_values"=some (.ref t.xX)
 pG:bJ K "stand_behind" "stand_behind" zC t.wJ t.pI
 Ih:mg "stand_behind"=some (.ref t.wJ)
 uf:bJ K "count_from" "count_from" DX t.AK t.uw
 Mu:mg "count_from"=some (.ref t.AK)
 vZ:bJ K "pick_ways" "pick_ways" FN t.CP t.vp
 Qa:mg "pick_ways"=some (.ref t.CP)
 vz:bJ K "pick_path" "pick_path" Fc t.D6 t.wg
 Qz:mg "pick_path"=some (.ref t.D6)
 El:bJ K "__init__" "Step.__init__" FQ t.Em t.vy
 Bu:bJ K "__init__" "Track.__init__" D4 t.Ao t.tH
 qU:bJ K "node_count" "Track.node_count" tq t.ot t.k6
 vX:bJ K "step_at" "Track.step_at" wY t.tG t.oP
 vP:bJ K "lay_row" "Track.lay_row" xi t.tY t.oB
 vw:bJ K "__init__" "Scansion.__init__" xj t.uu t.oA
 kG:bJ K "find_scansion" "find_scansion" xy t.tV t.oJ
 vq:mg "find_scansion"=some (.ref t.tV)
 qd:bJ K "nth_scansion" "nth_scansion" zx t.vU t.qc
 IJ:mg "nth_scansion"=some (.ref t.vU)
 kc:bJ K "cheapest_scansion" "cheapest_scansion" qS t.m9 t.ke
 Bd:mg "cheapest_scansion"=some (.ref t.m9)
 qm:bJ K "fewest_mends" "fewest_mends" yM t.wA t.pW
 Jl:mg "fewest_mends"=some (.ref t.wA)
 dC:bJ K "with_length" "with_length" By t.xZ t.rn
 eX:mg "with_length"=some (.ref t.xZ)
 jz:bJ K "metre_at" "metre_at" Jm t.Ha t.yf
 nR:mg "metre_at"=some (.ref t.Ha)
 Eg:bJ K "begins" "begins" Pn t.begins t.DY
 acn:mg "begins"=some (.ref t.begins)
 F6:bJ K "metre" "metre" Sd t.metre t.GO
 acO:mg "metre"=some (.ref t.metre)
 GH:bJ K "scans" "scans" R9 t.scans t.Hd
 acT:mg "scans"=some (.ref t.scans)
 K3:bJ K "scan" "scan" Vn t.scan t.Ku
 adh:mg "scan"=some (.ref t.scan)
 xE:bJ K "cheapest" "cheapest" JO t.cheapest t.yq
 abY:mg "cheapest"=some (.ref t.cheapest)
 GI:bJ K "which" "which" RU t.which t.F5
 acM:mg "which"=some (.ref t.which)
 GQ:bJ K "mends" "mends" SA t.mends t.GB
 ac1:mg "mends"=some (.ref t.mends)
 K0:bJ K "poem" "poem" Vu t.poem t.Kd
 adi:mg "poem"=some (.ref t.poem)
 Gz:bJ K "forms" "forms" Sv t.forms t.G8
 adf:mg "forms"=some (.ref t.forms)
 vi:bJ K "answer_to" "answer_to" Ft t.Cy t.vh
 Qn:mg "answer_to"=some (.ref t.Cy)
 HZ:bJ K "answers" "answers" LH t.answers t.qA
 UC:mg "answers"=some (.ref t.answers)
 LK:∃u,mg "EITHER"=some u/\RelV (.int 3) u
 zh:∃u,mg "ANY"=some u/\RelV (.int 3) u
 Dp:∃u,mg "MUST_JOIN"=some u/\RelV (.int 1) u
 xQ:∃u,mg "MAY_JOIN"=some u/\RelV (.int 2) u
 E3:∃u,mg "MOST_SYLLABLES"=some u/\RelV (.int 24) u
 zI:∃u,mg "MOST_THAT_MAY_JOIN"=some u/\RelV (.int 6) u
 Mr:∃u,mg "MOST_LINES"=some u/\RelV (.int 20) u
 KI:∃u,mg "MOST_PLACES"=some u/\RelV (.int 8) u
 OM:∃u,mg "MOST_WAYS"=some u/\RelV (.int 3) u
 Pe:∃u,mg "MOST_COST"=some u/\RelV (.int 100) u
 rF:∃u,mg "LONGEST_ROW"=some u/\RelV (.int 4) u
 P2:∃u,mg "MOST_CUTS"=some u/\RelV (.int 4) u
 MG:∃u,mg "MOST_SPOTS"=some u/\RelV (.int 6) u
 xu:∃u,mg "BANNED"=some u/\RelV (.int 16) u
 rm:∃u,mg "LANE"=some u/\RelV (.int 20) u
 OP:∃u,mg "LANE_ONES"=some u/\RelV (.int 1048575) u
 Gi:∃u,mg "HIGHEST_VALUE"=some u/\RelV (.int 3) u
 J9:∃u,mg "MOST_METRES"=some u/\RelV (.int 8) u
 XB:∃c:Addr,mg "CALLS"=some (.ref c)/\∀H:Hp,uN K H c [.ref t.begins,.ref t.metre,.ref t.scans,.ref t.scan,.ref t.cheapest,.ref t.which,.ref t.mends,.ref t.poem,.ref t.forms]
 Qe:mg "Exception"=none
 OE:mg "all"=none
 Vk:mg "any"=none
 c7:mg "enumerate"=none
 dk:mg "len"=none
 dG:mg "range"=none
 Ra:mg "reversed"=none
 abg:mg "sum"=none
structure fM(K:W.Frag)(t:Ad):Prop where
 ty:YC K
 by_:YK K t.Refusal "__init__" t.iz
 Ii:LX.XK K t.xq
 Yz:LX.XK K t.sL
 xk5:LX.XK K t.nW
 OW:LX.XK K t.wR
 in1:W.findIn K (.ref t.xq) "__init__"=some (some (.ref t.mU))
 in2:W.findIn K (.ref t.sL) "__init__"=some (some (.ref t.kI))
 in5:W.findIn K (.ref t.nW) "__init__"=some (some (.ref t.i6))
 in6:W.findIn K (.ref t.wR) "__init__"=some (some (.ref t.mW))
 Zr:W.isFn K (.ref t.mU)=true
 fn2:W.isFn K (.ref t.kI)=true
 fn5:W.isFn K (.ref t.i6)=true
 fn6:W.isFn K (.ref t.mW)=true
 VT:W.exmOne K (.ref t.xq) (.ref t.Refusal)=some true
 em2:W.exmOne K (.ref t.sL) (.ref t.Refusal)=some true
 em5:W.exmOne K (.ref t.nW) (.ref t.Refusal)=some true
 YS:W.exmOne K (.ref t.wR) (.ref t.Refusal)=some true
def ij(t:Ad):List Addr:=[t.begins,t.metre,t.scans,t.scan,t.cheapest,t.which,t.mends,t.poem,t.forms]
def EM(K:W.Frag):Sp:=λvs H Q _=>X2 λ(a:Addr) (Y:List Int)=>Y4 (vs=[.ref a]) (dn K H a (Y.map V.int)) (PySw66.answers_asked Y=true) (∀p U,U p=some (.lst ((PySw66.answers Y).map V.int))->Q (.ref p) U)
structure Ev where
 P:Program
 w:World
 K:W.Frag
 mg:Str->Option Value
 base:Heap
 t:Ad
def Ev.Bad(e:Ev):Prop:=(Txt e.K e.mg e.t/\fM e.K e.t/\(ij e.t).Nodup)/\¬aM e.P e.w e.K e.mg e.base bX 24 e.t.answers e.t.qA ["calls"] (EM e.K)
noncomputable section
def ev:Ev:=@Classical.epsilon Ev ⟨⟨default,⟨λ_ _=>0,by constructor<;>exact default⟩,[],λ_=>none,default,by constructor<;>exact default⟩⟩ Ev.Bad
def P:Program:=ev.P
def w:World:=ev.w
def K:W.Frag:=ev.K
def mg:Str->Option Value:=ev.mg
def base:Heap:=ev.base
def t:Ad:=ev.t
end
section
theorem us0{P:List Value->Prop}(h:P [])(us:List Value)(Y:us.length=0):P us:=by cases us with|nil=>exact h|cons a r=>cases Y
theorem WH{P:List Value->Prop}{n:Nat}(h:∀a us,us.length=n->P (a::us))(us:List Value)(Y:us.length=n+1):P us:=by cases us with|nil=>cases Y|cons a r=>exact h a r (Nat.succ.inj Y)
theorem kQ{P:List Value->Prop}(h:∀a,P [a]):∀us:List Value,us.length=1->P us:=WH λa=>us0 (h a)
theorem gS{P:List Value->Prop}(h:∀a b,P [a,b]):∀us:List Value,us.length=2->P us:=WH λa=>kQ (h a)
theorem Dd{P:List Value->Prop}(h:∀a b c,P [a,b,c]):∀us:List Value,us.length=3->P us:=WH λa=>gS (h a)
theorem uK{P:List Value->Prop}(h:∀a b c d,P [a,b,c,d]):∀us:List Value,us.length=4->P us:=WH λa=>Dd (h a)
theorem us5{P:List Value->Prop}(h:∀a b c d e,P [a,b,c,d,e]):∀us:List Value,us.length=5->P us:=WH λa=>uK (h a)
theorem lC(T:Txt K mg t):Binds K t.fg ["self","number"] []:=T.xo.binds λ_ _ _ _ _ _=>gS λ_ _=>rfl
theorem jD(T:Txt K mg t):Binds K t.nh ["self"] []:=T.uE.binds λ_ _ _ _ _ _=>kQ λ_=>rfl
theorem qO(T:Txt K mg t):Binds K t.k9 ["self"] []:=T.qW.binds λ_ _ _ _ _ _=>kQ λ_=>rfl
theorem zD(T:Txt K mg t):Binds K t.jP ["self"] []:=T.o7.binds λ_ _ _ _ _ _=>kQ λ_=>rfl
theorem nE(T:Txt K mg t):Binds K t.nO ["self"] []:=T.uG.binds λ_ _ _ _ _ _=>kQ λ_=>rfl
theorem Pq(T:Txt K mg t):Binds K t.vm ["self","weights","joins","ends"] []:=T.Ds.binds λ_ _ _ _ _ _=>uK λ_ _ _ _=>rfl
theorem Mq(T:Txt K mg t):Binds K t.tI ["line"] []:=T.tR.binds λ_ _ _ _ _ _=>kQ λ_=>rfl
theorem j7(T:Txt K mg t):Binds K t.vM ["reader"] []:=T.f6.binds λ_ _ _ _ _ _=>kQ λ_=>rfl
theorem Cc(T:Txt K mg t):Binds K t.tW ["reader"] []:=T.n6.binds λ_ _ _ _ _ _=>kQ λ_=>rfl
theorem FR(T:Txt K mg t):Binds K t.yj ["weight","member"] []:=T.sC.binds λ_ _ _ _ _ _=>gS λ_ _=>rfl
theorem QY(T:Txt K mg t):Binds K t.yu ["self","cost","row"] []:=T.FA.binds λ_ _ _ _ _ _=>Dd λ_ _ _=>rfl
theorem QW(T:Txt K mg t):Binds K t.xS ["self","must_be","spots"] []:=T.FJ.binds λ_ _ _ _ _ _=>Dd λ_ _ _=>rfl
theorem M3(T:Txt K mg t):Binds K t.t9 ["self","places","cuts"] []:=T.Bz.binds λ_ _ _ _ _ _=>Dd λ_ _ _=>rfl
theorem Rq(T:Txt K mg t):Binds K t.xV ["reader"] []:=T.xY.binds λ_ _ _ _ _ _=>kQ λ_=>rfl
theorem MT(T:Txt K mg t):Binds K t.uk ["reader"] []:=T.tU.binds λ_ _ _ _ _ _=>kQ λ_=>rfl
theorem Qi(T:Txt K mg t):Binds K t.vL ["reader"] []:=T.wo.binds λ_ _ _ _ _ _=>kQ λ_=>rfl
theorem Q9(T:Txt K mg t):Binds K t.yr ["reader"] []:=T.yy.binds λ_ _ _ _ _ _=>kQ λ_=>rfl
theorem E5(T:Txt K mg t):Binds K t.nB ["way"] []:=T.nF.binds λ_ _ _ _ _ _=>kQ λ_=>rfl
theorem yF(T:Txt K mg t):Binds K t.jT ["places"] []:=T.jX.binds λ_ _ _ _ _ _=>kQ λ_=>rfl
theorem Cg(T:Txt K mg t):Binds K t.lg ["cuts","place_count"] []:=T.kY.binds λ_ _ _ _ _ _=>gS λ_ _=>rfl
theorem MJ(T:Txt K mg t):Binds K t.tP ["reader"] []:=T.ua.binds λ_ _ _ _ _ _=>kQ λ_=>rfl
theorem t8(T:Txt K mg t):Binds K t.uj ["self","line"] []:=T.BL.binds λ_ _ _ _ _ _=>gS λ_ _=>rfl
theorem rg(T:Txt K mg t):Binds K t.rN ["truths"] []:=T.j2.binds λ_ _ _ _ _ _=>kQ λ_=>rfl
theorem mH(T:Txt K mg t):Binds K t.rA ["ahead","may_join"] []:=T.hR.binds λ_ _ _ _ _ _=>gS λ_ _=>rfl
theorem pY(T:Txt K mg t):Binds K t.vG ["tallies","met","ahead"] []:=T.j5.binds λ_ _ _ _ _ _=>Dd λ_ _ _=>rfl
theorem K2(T:Txt K mg t):Binds K t.rT ["tallies","lanes","member","gain"] []:=T.rK.binds λ_ _ _ _ _ _=>uK λ_ _ _ _=>rfl
theorem M0(T:Txt K mg t):Binds K t.tX ["tallies","lanes","ways","gains"] []:=T.tN.binds λ_ _ _ _ _ _=>uK λ_ _ _ _=>rfl
theorem l7(T:Txt K mg t):Binds K t.mw ["lanes","metre"] []:=T.gg.binds λ_ _ _ _ _ _=>gS λ_ _=>rfl
theorem Cr(T:Txt K mg t):Binds K t.wG ["line","metres"] []:=T.pQ.binds λ_ _ _ _ _ _=>gS λ_ _=>rfl
theorem D9(T:Txt K mg t):Binds K t.lN ["form","lines"] []:=T.mC.binds λ_ _ _ _ _ _=>gS λ_ _=>rfl
theorem HI(T:Txt K mg t):Binds K t.pL ["fitting"] []:=T.qu.binds λ_ _ _ _ _ _=>kQ λ_=>rfl
theorem HY(T:Txt K mg t):Binds K t.qH ["fitting","size"] []:=T.qf.binds λ_ _ _ _ _ _=>gS λ_ _=>rfl
theorem GU(T:Txt K mg t):Binds K t.oW ["lines","metres"] []:=T.oQ.binds λ_ _ _ _ _ _=>gS λ_ _=>rfl
theorem zN(T:Txt K mg t):Binds K t.rS ["self","numbers"] []:=T.zO.binds λ_ _ _ _ _ _=>gS λ_ _=>rfl
theorem Di(T:Txt K mg t):Binds K t.l9 ["self"] []:=T.sZ.binds λ_ _ _ _ _ _=>kQ λ_=>rfl
theorem bz(T:Txt K mg t):Binds K t.mZ ["self"] []:=T.y9.binds λ_ _ _ _ _ _=>kQ λ_=>rfl
theorem lT(T:Txt K mg t):Binds K t.lO ["self"] []:=T.tD.binds λ_ _ _ _ _ _=>kQ λ_=>rfl
theorem B2(T:Txt K mg t):Binds K t.tO ["self","may_join","taken","prices","word_ends"] []:=T.BG.binds λ_ _ _ _ _ _=>us5 λ_ _ _ _ _=>rfl
theorem Rx(T:Txt K mg t):Binds K t.xW ["weight","join","word_ends","mending"] []:=T.xN.binds λ_ _ _ _ _ _=>uK λ_ _ _ _=>rfl
theorem Dm(T:Txt K mg t):Binds K t.vT ["line","mending"] []:=T.pC.binds λ_ _ _ _ _ _=>gS λ_ _=>rfl
theorem U7(T:Txt K mg t):Binds K t.DU ["offer","value"] []:=T.Ep.binds λ_ _ _ _ _ _=>gS λ_ _=>rfl
theorem qp(T:Txt K mg t):Binds K t.wI ["known","key","cost","count"] []:=T.jI.binds λ_ _ _ _ _ _=>uK λ_ _ _ _=>rfl
theorem t6(T:Txt K mg t):Binds K t.tL ["met","step","offer"] []:=T.kM.binds λ_ _ _ _ _ _=>Dd λ_ _ _=>rfl
theorem Ja(T:Txt K mg t):Binds K t.pX ["step","offer","staying","behind","all_met"] []:=T.pH.binds λ_ _ _ _ _ _=>us5 λ_ _ _ _ _=>rfl
theorem JQ(T:Txt K mg t):Binds K t.pd ["fork","table"] []:=T.qb.binds λ_ _ _ _ _ _=>gS λ_ _=>rfl
theorem Bx(T:Txt K mg t):Binds K t.ui ["table","track"] []:=T.n9.binds λ_ _ _ _ _ _=>gS λ_ _=>rfl
theorem MC(T:Txt K mg t):Binds K t.t7 ["track"] []:=T.tS.binds λ_ _ _ _ _ _=>kQ λ_=>rfl
theorem Ie(T:Txt K mg t):Binds K t.qr ["offer","later","track"] []:=T.pD.binds λ_ _ _ _ _ _=>Dd λ_ _ _=>rfl
theorem oR(T:Txt K mg t):Binds K t.oy ["offers","track"] []:=T.ib.binds λ_ _ _ _ _ _=>gS λ_ _=>rfl
theorem sf(T:Txt K mg t):Binds K t.yk ["tables"] []:=T.kW.binds λ_ _ _ _ _ _=>kQ λ_=>rfl
theorem qo(T:Txt K mg t):Binds K t.kK ["front","track"] []:=T.gU.binds λ_ _ _ _ _ _=>gS λ_ _=>rfl
theorem Jz(T:Txt K mg t):Binds K t.qE ["front","offer","value","track"] []:=T.pN.binds λ_ _ _ _ _ _=>uK λ_ _ _ _=>rfl
theorem yJ(T:Txt K mg t):Binds K t.rJ ["front","table","least"] []:=T.mM.binds λ_ _ _ _ _ _=>Dd λ_ _ _=>rfl
theorem zH(T:Txt K mg t):Binds K t.qZ ["self","ahead"] []:=T.zS.binds λ_ _ _ _ _ _=>gS λ_ _=>rfl
theorem BX(T:Txt K mg t):Binds K t.uv ["self","syllable","met","cost"] []:=T.Cb.binds λ_ _ _ _ _ _=>uK λ_ _ _ _=>rfl
theorem Kk(T:Txt K mg t):Binds K t.rC ["offers","track","tables","ahead"] []:=T.qY.binds λ_ _ _ _ _ _=>uK λ_ _ _ _=>rfl
theorem IH(T:Txt K mg t):Binds K t.pI ["stand","branch","offers","track"] []:=T.pG.binds λ_ _ _ _ _ _=>uK λ_ _ _ _=>rfl
theorem ML(T:Txt K mg t):Binds K t.uw ["stand","place","tables","least"] []:=T.uf.binds λ_ _ _ _ _ _=>uK λ_ _ _ _=>rfl
theorem PR(T:Txt K mg t):Binds K t.vp ["offers","track","ahead"] []:=T.vZ.binds λ_ _ _ _ _ _=>Dd λ_ _ _=>rfl
theorem QJ(T:Txt K mg t):Binds K t.wg ["offers","track","tables","ahead"] []:=T.vz.binds λ_ _ _ _ _ _=>uK λ_ _ _ _=>rfl
theorem QB(T:Txt K mg t):Binds K t.vy ["self","member","gain","after"] []:=T.El.binds λ_ _ _ _ _ _=>uK λ_ _ _ _=>rfl
theorem BH(T:Txt K mg t):Binds K t.tH ["self","metre","with_costs"] []:=T.Bu.binds λ_ _ _ _ _ _=>Dd λ_ _ _=>rfl
theorem lh(T:Txt K mg t):Binds K t.k6 ["self"] []:=T.qU.binds λ_ _ _ _ _ _=>kQ λ_=>rfl
theorem vB(T:Txt K mg t):Binds K t.oP ["self","node"] []:=T.vX.binds λ_ _ _ _ _ _=>gS λ_ _=>rfl
theorem GG(T:Txt K mg t):Binds K t.oB ["self","row","gains","fork_behind"] []:=T.vP.binds λ_ _ _ _ _ _=>uK λ_ _ _ _=>rfl
theorem Gy(T:Txt K mg t):Binds K t.oA ["self","count","path","metre"] []:=T.vw.binds λ_ _ _ _ _ _=>uK λ_ _ _ _=>rfl
theorem wq(T:Txt K mg t):Binds K t.oJ ["line","metre","number","by_cost"] []:=T.kG.binds λ_ _ _ _ _ _=>uK λ_ _ _ _=>rfl
theorem Jd(T:Txt K mg t):Binds K t.qc ["line","metre","number"] []:=T.qd.binds λ_ _ _ _ _ _=>Dd λ_ _ _=>rfl
theorem AN(T:Txt K mg t):Binds K t.ke ["line","metre"] []:=T.kc.binds λ_ _ _ _ _ _=>gS λ_ _=>rfl
theorem JC(T:Txt K mg t):Binds K t.pW ["line","metre"] []:=T.qm.binds λ_ _ _ _ _ _=>gS λ_ _=>rfl
theorem eZ(T:Txt K mg t):Binds K t.rn ["row"] []:=T.dC.binds λ_ _ _ _ _ _=>kQ λ_=>rfl
theorem nV(T:Txt K mg t):Binds K t.yf ["metres","number"] []:=T.jz.binds λ_ _ _ _ _ _=>gS λ_ _=>rfl
theorem WO(T:Txt K mg t):Binds K t.DY ["metres","reader"] []:=T.Eg.binds λ_ _ _ _ _ _=>gS λ_ _=>rfl
theorem W2(T:Txt K mg t):Binds K t.GO ["metres","reader"] []:=T.F6.binds λ_ _ _ _ _ _=>gS λ_ _=>rfl
theorem Xo(T:Txt K mg t):Binds K t.Hd ["metres","reader"] []:=T.GH.binds λ_ _ _ _ _ _=>gS λ_ _=>rfl
theorem aab(T:Txt K mg t):Binds K t.Ku ["metres","reader"] []:=T.K3.binds λ_ _ _ _ _ _=>gS λ_ _=>rfl
theorem Ry(T:Txt K mg t):Binds K t.yq ["metres","reader"] []:=T.xE.binds λ_ _ _ _ _ _=>gS λ_ _=>rfl
theorem Xm(T:Txt K mg t):Binds K t.F5 ["metres","reader"] []:=T.GI.binds λ_ _ _ _ _ _=>gS λ_ _=>rfl
theorem XI(T:Txt K mg t):Binds K t.GB ["metres","reader"] []:=T.GQ.binds λ_ _ _ _ _ _=>gS λ_ _=>rfl
theorem aaB(T:Txt K mg t):Binds K t.Kd ["metres","reader"] []:=T.K0.binds λ_ _ _ _ _ _=>gS λ_ _=>rfl
theorem Xu(T:Txt K mg t):Binds K t.G8 ["metres","reader"] []:=T.Gz.binds λ_ _ _ _ _ _=>gS λ_ _=>rfl
theorem P9(T:Txt K mg t):Binds K t.vh ["metres","reader"] []:=T.vi.binds λ_ _ _ _ _ _=>gS λ_ _=>rfl
theorem Jj:aD ["self","number"] ["self","number"] (az yQ):=bR
theorem E1:aD ["self"] ["self"] (az wk):=bR
theorem Cf:aD ["self"] ["self"] (az sR):=bR
theorem zF:aD ["self"] ["self"] (az qk):=bR
theorem EY:aD ["self"] ["self"] (az vA):=bR
theorem QF:aD ["self","weights","joins","ends"] ["self","weights","joins","ends"] (az E9):=bR
theorem iP:aD ["line","size","weight","join"] ["line"] (az Df):=bR
theorem wu:aD ["reader","line","syllable"] ["reader"] (az Fq):=bR
theorem nZ:aD ["reader","size","line"] ["reader"] (az DN):=bR
theorem Rh:aD ["weight","member"] ["weight","member"] (az JG):=bR
theorem Rl:aD ["self","cost","row"] ["self","cost","row"] (az JV):=bR
theorem Q6:aD ["self","must_be","spots"] ["self","must_be","spots"] (az HM):=bR
theorem gO:aD ["self","places","cuts","cut","gain","spot","place"] ["self","places","cuts"] (az DZ):=bR
theorem Fy:aD ["reader","cost"] ["reader"] (az Io):=bR
theorem tT:aD ["reader","way"] ["reader"] (az DV):=bR
theorem Cn:aD ["reader","place"] ["reader"] (az FK):=bR
theorem sG:aD ["reader","must_be","spot"] ["reader"] (az HU):=bR
theorem nA:aD ["way","member"] ["way"] (az wM):=bR
theorem gr:aD ["places","ways","way"] ["places"] (az pq):=bR
theorem k8:aD ["cuts","place_count","cut","spot"] ["cuts","place_count"] (az tj):=bR
theorem kP:aD ["reader","places","cuts","place","cut"] ["reader"] (az Ek):=bR
theorem cD:aD ["self","line","kept","ending","member","index","lanes"] ["self","line"] (az DA):=bR
theorem jJ:aD ["truths","lanes","index","truth"] ["truths"] (az B3):=bR
theorem mS:aD ["ahead","may_join","moved"] ["ahead","may_join"] (az BZ):=bR
theorem PV:aD ["tallies","met","ahead"] ["tallies","met","ahead"] (az Fl):=bR
theorem ia:aD ["tallies","lanes","member","gain","after","met","ahead","within","ends"] ["tallies","lanes","member","gain"] (az BN):=bR
theorem eP:aD ["tallies","lanes","ways","gains","after","way","filled","index","member","met","ahead"] ["tallies","lanes","ways","gains"] (az DR):=bR
theorem f7:aD ["lanes","metre","tallies","place","ways"] ["lanes","metre"] (az uF):=bR
theorem lR:aD ["line","metres","lanes","number","metre"] ["line","metres"] (az Fh):=bR
theorem jd:aD ["form","lines","index","line"] ["form","lines"] (az uI):=bR
theorem lB:aD ["fitting","number","numbers"] ["fitting"] (az zE):=bR
theorem qJ:aD ["fitting","size","form","first"] ["fitting","size"] (az y3):=bR
theorem iB:aD ["lines","metres","fitting","size","form","line"] ["lines","metres"] (az xn):=bR
theorem J3:aD ["self","numbers"] ["self","numbers"] (az Cd):=bR
theorem Du:aD ["self"] ["self"] (az uJ):=bR
theorem zd:aD ["self","number"] ["self"] (az B5):=bR
theorem me:aD ["self","size","row"] ["self"] (az uL):=bR
theorem MK:aD ["self","may_join","taken","prices","word_ends"] ["self","may_join","taken","prices","word_ends"] (az DO):=bR
theorem sJ:aD ["weight","join","word_ends","mending","taken","prices","member"] ["weight","join","word_ends","mending"] (az Hy):=bR
theorem qv:aD ["line","mending","index","weight"] ["line","mending"] (az Fe):=bR
theorem Cm:aD ["offer","value","taken","what"] ["offer","value"] (az QE):=bR
theorem CY:aD ["known","key","cost","count","old"] ["known","key","cost","count"] (az FC):=bR
theorem Mx:aD ["met","step","offer"] ["met","step","offer"] (az D7):=bR
theorem i0:aD ["step","offer","staying","behind","all_met","endings","price","met","ending"] ["step","offer","staying","behind","all_met"] (az y6):=bR
theorem jj:aD ["fork","table","endings","branch","met","ending"] ["fork","table"] (az yS):=bR
theorem BP:aD ["table","track","place"] ["table","track"] (az Dh):=bR
theorem uB:aD ["track","table","node"] ["track"] (az CI):=bR
theorem gj:aD ["offer","later","track","table","index","step","staying","fork"] ["offer","later","track"] (az yX):=bR
theorem oO:aD ["offers","track","tables","offer"] ["offers","track"] (az xa):=bR
theorem Rz:aD ["tables"] ["tables"] (az Iq):=bR
theorem fu:aD ["front","track","place","met","path","branch"] ["front","track"] (az qV):=bR
theorem gE:aD ["front","offer","value","track","behind","state","path","step","met"] ["front","offer","value","track"] (az zq):=bR
theorem hX:aD ["front","table","least","count","state","path","ending"] ["front","table","least"] (az BF):=bR
theorem KD:aD ["self","ahead"] ["self","ahead"] (az BK):=bR
theorem MN:aD ["self","syllable","met","cost"] ["self","syllable","met","cost"] (az DB):=bR
theorem dD:aD ["offers","track","tables","ahead","least","picked","front","index","offer","value","behind","count"] ["offers","track","tables","ahead"] (az BE):=bR
theorem gz:aD ["stand","branch","offers","track","behind","node","step","offer"] ["stand","branch","offers","track"] (az zC):=bR
theorem MQ:aD ["stand","place","tables","least"] ["stand","place","tables","least"] (az DX):=bR
theorem dz:aD ["offers","track","ahead","tables","least","picked","stand","place","fork","way","branch","behind","count"] ["offers","track","ahead"] (az FN):=bR
theorem lQ:aD ["offers","track","tables","ahead","values","counting","index","offer"] ["offers","track","tables","ahead"] (az Fc):=bR
theorem Oz:aD ["self","member","gain","after"] ["self","member","gain","after"] (az FQ):=bR
theorem iQ:aD ["self","metre","with_costs","place","ways","fork","way","node"] ["self","metre","with_costs"] (az D4):=bR
theorem Ci:aD ["self"] ["self"] (az tq):=bR
theorem GN:aD ["self","node"] ["self","node"] (az wY):=bR
theorem ic:aD ["self","row","gains","fork_behind","first","index","member","after"] ["self","row","gains","fork_behind"] (az xi):=bR
theorem kD:aD ["self","count","path","metre","place","ways"] ["self","count","path","metre"] (az xj):=bR
theorem iC:aD ["line","metre","number","by_cost","offers","track","tables","least"] ["line","metre","number","by_cost"] (az xy):=bR
theorem HL:aD ["line","metre","number"] ["line","metre","number"] (az zx):=bR
theorem Bl:aD ["line","metre"] ["line","metre"] (az qS):=bR
theorem wO:aD ["line","metre","least"] ["line","metre"] (az yM):=bR
theorem KL:aD ["row"] ["row"] (az By):=bR
theorem Q3:aD ["metres","number"] ["metres","number"] (az Jm):=bR
theorem Vv:aD ["metres","reader"] ["metres","reader"] (az Pn):=bR
theorem Po:aD ["metres","reader","told"] ["metres","reader"] (az Sd):=bR
theorem PY:aD ["metres","reader","chosen"] ["metres","reader"] (az R9):=bR
theorem EL:aD ["metres","reader","chosen","number","found"] ["metres","reader"] (az Vn):=bR
theorem xK:aD ["metres","reader","chosen","found"] ["metres","reader"] (az JO):=bR
theorem Qk:aD ["metres","reader","numbers"] ["metres","reader"] (az RU):=bR
theorem OX:aD ["metres","reader","chosen"] ["metres","reader"] (az SA):=bR
theorem vd:aD ["metres","reader","form","lines","counts","holds","number"] ["metres","reader"] (az Vu):=bR
theorem Hh:aD ["metres","reader","lines","form"] ["metres","reader"] (az Sv):=bR
theorem wH:aD ["metres","reader","call","refusal"] ["metres","reader"] (az Ft):=bR
theorem p7:aD ["calls","metres","told","reader","answer"] ["calls"] (az LH):=bR
end
end
section
variable{H':Hp}{dx:Addr}{ns:List Int}
theorem boot_any:bootBuiltins "any"=some (.builtin "any"):=Mo
theorem boot_all:bootBuiltins "all"=some (.builtin "all"):=Mo
theorem boot_sum:bootBuiltins "sum"=some (.builtin "sum"):=Mo
theorem cH{X:Cx}{x:Str}{v:V}{Y:Pos}(U:Gl X x)(h:∃u,X.mg x=some u/\RelV v u)(hd:(x==("__debug__":Str))=false:=by decide):PE X (.Name x Y) (tC v):=by
 obtain⟨u,T,Q⟩:=h;exact aam U T Q hd
def nw(H H':Hp):Hp:=λb=>match H b with
 |none=>H' b
 |some _=>none
theorem Nk{H:Hp}{b:Addr}(h:H b=none):nw H H' b=H' b:=by unfold nw;rw[h]
theorem aaQ{H:Hp}{b:Addr}{o:HO}(h:H b=some o):nw H H' b=none:=by unfold nw;rw[h]
theorem mI{H:Hp}{b:Addr}{o:HO}(h:nw H H' b=some o):H b=none/\H' b=some o:=by
 cases q:H b with
 |none=>rw[Nk q]at h;exact⟨rfl,h⟩
 |some u=>rw[aaQ q]at h;cases h
theorem cP{H:Hp}:aw (nw H H') H':=λb o h=>(mI h).2
theorem fD{Y H:Hp}(s:∀b,H b=none->Y b=none):aw (nw H H') (nw Y H'):=λb o h=>by
 obtain⟨U,T⟩:=mI h;rw[Nk (s b U)];exact T
theorem kn{H Y:Hp}(s:∀b o,H b=none->H' b=some o->Y b=some o):aw (nw H H') (nw H Y):=λb o h=>by
 obtain⟨U,T⟩:=mI h;rw[Nk U];exact s b o U T
theorem au{H:Hp}{p:Addr}{o:HO}(h:H p=none):aw H (upd H p o):=λb u q=>by rw[aj (aO q h)];exact q
theorem XS{H:Hp}{p q:Addr}{a b c:HO}(n:q≠p):upd (upd (upd H p a) q b) p c=upd (upd H q b) p c:=by
 funext x;by_cases z:x=p
 .rw[z,af,af]
 rw[aj z,aj z];by_cases Y:x=q
 .rw[Y,af,af]
 rw[aj Y,aj Y,aj z]
def aq(p:Addr)(H H':Hp):Prop:=∀b o,b≠p->H b=some o->H' b=some o
theorem aq.refl(p:Addr)(H:Hp):aq p H H:=λ_ _ _ h=>h
theorem aq.trans{p:Addr}{H H1 H2:Hp}(a:aq p H H1)(b:aq p H1 H2):aq p H H2:=λc o n h=>b c o n (a c o n h)
theorem aq.of{p:Addr}{H:Hp}(s:aw H H'):aq p H H':=λb o _ h=>s b o h
theorem aq.upd{p:Addr}{H:Hp}{o:HO}:aq p H (upd H p o):=λb u n h=>by rw[aj n];exact h
theorem aq.free{p:Addr}{H:Hp}(s:aq p H H'){b:Addr}(Y:H' p≠none)(h:H' b=none):H b=none:=by
 cases q:H b with
 |none=>rfl
 |some o =>
  have:b≠p:=λz=>Y (by rw[<-z];exact h)
  rw[s b o this q]at h;cases h
theorem aq.ac8{K:W.Frag}{p:Addr}{H:Hp}{a C:Addr}{fs:List (Str×V)}{xs:List V}(e:aq p H H')(Y:H p=some (.ins C dx fs))(h:dn K H a xs):dn K H' a xs:=by
 rcases h with(h|⟨o,h⟩)|h
 .exact .inl (.inl (e _ _ (λz=>by rw[z,Y]at h;cases h) h))
 .exact .inl (.inr ⟨o,e _ _ (λz=>by rw[z,Y]at h;cases h) h⟩)
 exact .inr h
section
def w6(Y:Addr)(i:Int):List (Str×V):=[("numbers",.ref Y),("at",.int i)]
structure dv(K:W.Frag)(t:Ad)(H:Hp)(p dx nums:Addr)(ns:List Int)(i:Nat):Prop where
 obj:H p=some (.ins t.Reader dx (w6 nums i))
 seq:dn K H nums (ns.map V.int)
theorem dv.on{H:Hp}{p Y:Addr}{i j:Nat}(R:dv K t H p dx Y ns i)(s:aq p H H')(h:H' p=some (.ins t.Reader dx (w6 Y j))):dv K t H' p dx Y ns j:=⟨h,s.ac8 R.obj R.seq⟩
theorem dv.same{H:Hp}{p Y:Addr}{i:Nat}(R:dv K t H p dx Y ns i)(s:aw H H'):dv K t H' p dx Y ns i:=⟨s _ _ R.obj,s.seq R.seq⟩
def y8(K:W.Frag)(t:Ad):Sp:=λvs H Q _=>X3 λ(p dx Y:Addr)=>Y3 (vs=[.ref p,.ref Y]) (H p=some (.ins t.Reader dx [])) (Q .aX (upd H p (.ins t.Reader dx (w6 Y 0))))
theorem zu(T:Txt K mg t):aM P w K mg base bX 1 t.ym t.rS ["self","numbers"] (y8 K t):=by
 refine T.zO.ok J3 (λvs H Q E h=>?_) (λO A U s H vs Q E hr h=>?_)
 .obtain⟨p,dx,Y,rfl,_⟩:=h;rfl
 obtain⟨p,dx,Y,rfl,N,k⟩:=h;refine⟨_,ah (fo (pv 0) (pv 1) rfl) (ak (fo (pv 0) ax rfl)),?_⟩;refine⟨p,t.Reader,dx,[],rfl,N,T.bj,T.jE,aG,?_⟩;refine⟨p,t.Reader,dx,_,rfl,af,T.bj,T.ir,(by show 1<1000;decide),?_⟩
 rw[fF];exact k
theorem ET(Y:Addr)(i:Int):(w6 Y i).lookup ("at":Str)=some (.int i):=rfl
theorem Ak(Y:Addr)(i:Int):(w6 Y i).lookup ("numbers":Str)=some (.ref Y):=rfl
def DJ(K:W.Frag)(t:Ad):Sp:=λvs H Q _=>X5 λ(p dx Y:Addr) (ns:List Int) (i:Nat)=>Y3 (vs=[.ref p]) (dv K t H p dx Y ns i) (Q (.bl (decide ((i:Int)<ns.length))) H)
theorem Dl(T:Txt K mg t):aM P w K mg base bX 1 t.pS t.l9 ["self"] (DJ K t):=by
 refine T.sZ.ok Du (λvs H Q E h=>?_) (λO A U s H vs Q E hr h=>?_)
 .obtain⟨p,dx,Y,ns,i,rfl,_⟩:=h;rfl
 obtain⟨p,dx,Y,ns,i,rfl,R,k⟩:=h;refine⟨_,ak (aK (eM qw (vY (pv 0) rfl) (bH dP ay T.dk PySem.boot_len (aa (vY (pv 0) rfl) ai)) (aR _))),?_⟩;refine⟨p,_,dx,_,_,rfl,R.obj,T.bj,T.ir,ET _ _,p,_,dx,_,_,rfl,R.obj,T.bj,T.jE,Ak _ _,Y,_,rfl,.inl R.seq,?_⟩;rw[bG];exact k
def rB(K:W.Frag)(t:Ad):Sp:=λvs H Q _=>X6 λ(p dx Y:Addr) (ns:List Int) (i:Nat) (z:Int)=>Y4 (vs=[.ref p]) (dv K t H p dx Y ns i) (ns[i]?=some z) (Q (.int z) (upd H p (.ins t.Reader dx (w6 Y ((i+1:Nat):Int)))))
theorem VG(Y:Addr)(i j:Int):jv "at" (.int j) (w6 Y i)=w6 Y j:=by
 simp[w6,jv,show ¬(("numbers":Str)="at")by decide +kernel]
theorem aao{i:Nat}{z:Int}(h:ns[i]?=some z):Fj (ns.map V.int) (i:Int)=some (V.int z):=bE (by rw[cM,h];rfl)
theorem bB(T:Txt K mg t):aM P w K mg base bX 1 t.r6 t.mZ ["self"] (rB K t):=by
 refine T.y9.ok zd (λvs H Q E h=>?_) (λO A U s H vs Q E hr h=>?_)
 .obtain⟨p,dx,Y,ns,i,z,rfl,_⟩:=h;rfl
 obtain⟨p,dx,Y,ns,i,z,rfl,R,hz,k⟩:=h;refine⟨_,ah (aH (i:=1) zd.nd rfl aI (aS mN (vY (pv 0) rfl) (vY (pv 0) rfl) (λ_ _=>rfl)))
  (ah (L7 (pv 0) (ax) HR)
  (ak (aK (pv 1)))),?_⟩
 refine⟨p,_,dx,_,_,rfl,R.obj,T.bj,T.jE,Ak _ _,p,_,dx,_,_,rfl,R.obj,T.bj,T.ir,ET _ _,_,_,R.seq,aao hz,?_⟩;refine⟨p,_,dx,_,_,rfl,R.obj,T.bj,T.ir,ET _ _,dx,_,R.obj,(by show 2<1000;decide),?_⟩
 rw[VG];exact k
def sS(K:W.Frag)(t:Ad):Sp:=λvs H Q _=>X8 λ(p dx Y:Addr) (ns:List Int) (i:Nat) (pre c post:List Int)=>Y5 (vs=[.ref p]) (dv K t H p dx Y ns i) (ns=pre++((c.length:Int)::(c++post))) (i=pre.length) (∀q,H q=none->Q (.ref q) (upd (upd H q (.lst (c.map V.int))) p (.ins t.Reader dx (w6 Y ((i+1+c.length:Nat):Int)))))
theorem Z2(pre c post:List Int):Ka ((pre++((c.length:Int)::(c++post))).map V.int) (some ((pre.length+1:Nat):Int)) (some (((pre.length+1:Nat):Int)+(c.length:Int)))=c.map V.int:=by
 unfold Ka;have l:((pre++((c.length:Int)::(c++post))).map V.int).length=pre.length+1+c.length+post.length:=by simp;lia
 have Y:HT.qP ((pre++((c.length:Int)::(c++post))).map V.int).length 0 (some ((pre.length+1:Nat):Int))=pre.length+1:=by
  exact(HT.Sa _ _ _).trans (by rw[l];lia)
 have U:HT.qP ((pre++((c.length:Int)::(c++post))).map V.int).length ((pre++((c.length:Int)::(c++post))).map V.int).length (some (((pre.length+1:Nat):Int)+(c.length:Int)))=pre.length+1+c.length:=by
  rw[show((pre.length+1:Nat):Int)+(c.length:Int)=((pre.length+1+c.length:Nat):Int)by lia]
  exact(HT.Sa _ _ _).trans (by rw[l];lia)
 rw[Y,U,show pre.length+1+c.length - (pre.length+1)=c.length by lia,<-List.map_drop,<-SS]
 congr 1;rw[List.drop_append,TY ao,show pre.length+1 - pre.length=1 by lia]
 simp
theorem l8(T:Txt K mg t):aM P w K mg base bX 2 t.pJ t.lO ["self"] (sS K t):=by
 have U:aM P w K mg base bX 1 t.r6 t.mZ ["self"] (rB K t):=bB T;refine T.tD.ok me (λvs H Q E h=>?_) (λG A J s H vs Q E hr h=>?_)
 .obtain⟨p,dx,O,ns,i,pre,c,post,rfl,_⟩:=h;rfl
 obtain⟨p,dx,O,ns,i,pre,c,post,rfl,R,rfl,rfl,k⟩:=h;have Y:=hr;refine⟨_,ah (aH (i:=1) me.nd rfl aI (b5 (pv 0) T.bj T.bA U Y (bz T) .nil aC))
  (ah (aH (i:=2) me.nd rfl aI (Xx ZX (vY (pv 0) rfl) (Sk (vY (pv 0) rfl)) (Sk (bh dq (vY (pv 0) rfl) (pv 1)))))
  (ah (L7 (pv 0) (pv 1) HR)
  (ak (aK (pv 2))))),?_⟩
 refine⟨dx,_,R.obj,rfl,p,dx,O,_,_,(c.length:Int),rfl,R,by simp,?_⟩
 have D:aq p H (upd H p (.ins t.Reader dx (w6 O ((pre.length+1:Nat):Int)))):=aq.upd;have N:=R.on D (j:=pre.length+1) af;refine⟨p,_,dx,_,_,rfl,N.obj,T.bj,T.jE,Ak _ _,p,_,dx,_,_,rfl,N.obj,T.bj,T.ir,ET _ _,_,rfl,p,_,dx,_,_,rfl,N.obj,T.bj,T.ir,ET _ _,_,rfl,O,_,rfl,N.seq,λq M=>?_⟩;have L:q≠p:=λz=>by rw[z,af]at M;cases M
 have I:H q=none:=by rw[aj L]at M;exact M
 refine⟨p,t.Reader,dx,_,_,rfl,(by rw[aj (bq L)];exact af),T.bj,T.ir,ET _ _,dx,_,(by rw[aj (bq L)];exact af),(by show 2<1000;decide),?_⟩
 rw[VG,XS L];have e:=k q I;rw[Z2 pre c post];have C:(((pre.length+1:Nat):Int)+(c.length:Int))=((pre.length+1+c.length:Nat):Int):=by lia
 rw[C];exact e
end
end
section
abbrev CW(Y U T:V):List (Str×V):=[("weights",Y),("joins",U),("ends",T)]
def Ee(t:Ad):Sp:=λvs H Q _=>X5 λ(p Y:Addr) (U T O:V)=>Y3 (vs=[.ref p,U,T,O]) (H p=some (.ins t.Line Y [])) (Q .aX (upd H p (.ins t.Line Y (CW U T O))))
theorem Pl(T:Txt K mg t):aM P w K mg base bX 1 t.Cz t.vm ["self","weights","joins","ends"] (Ee t):=by
 refine T.Ds.ok QF (λvs H Q E h=>?_) (λO A U s H vs Q E hr h=>?_)
 .obtain⟨p,Y,N,M,L,rfl,_⟩:=h;rfl
 obtain⟨p,Y,N,M,L,rfl,J,k⟩:=h;refine⟨_,ah (fo (pv 0) (pv 1) rfl) (ah (fo (pv 0) (pv 2) rfl) (ak (fo (pv 0) (pv 3) rfl))),?_⟩;refine⟨p,t.Line,Y,_,rfl,J,T.eA,T.gJ,(by show 0<1000;decide),?_⟩
 refine⟨p,t.Line,Y,_,rfl,af,T.eA,T.eQ,(by show 1<1000;decide),?_⟩
 rw[fF];refine⟨p,t.Line,Y,_,rfl,af,T.eA,T.pT,(by show 2<1000;decide),?_⟩
 rw[fF];exact k
abbrev M6(Y U:V):List (Str×V):=[("cost",Y),("row",U)]
def FT(t:Ad):Sp:=λvs H Q _=>X4 λ(p Y:Addr) (U T:V)=>Y3 (vs=[.ref p,U,T]) (H p=some (.ins t.Way Y [])) (Q .aX (upd H p (.ins t.Way Y (M6 U T))))
theorem RA(T:Txt K mg t):aM P w K mg base bX 1 t.Gn t.yu ["self","cost","row"] (FT t):=by
 refine T.FA.ok Rl (λvs H Q E h=>?_) (λO A Y s H vs Q E hr h=>?_)
 .obtain⟨p,U,N,M,rfl,_⟩:=h;rfl
 obtain⟨p,U,N,M,rfl,L,k⟩:=h;refine⟨_,ah (fo (pv 0) (pv 1) rfl) (ak (fo (pv 0) (pv 2) rfl)),?_⟩;refine⟨p,t.Way,U,_,rfl,L,T.ph,T.sM,(by show 0<1000;decide),?_⟩
 refine⟨p,t.Way,U,_,rfl,af,T.ph,T.qg,(by show 1<1000;decide),?_⟩
 rw[fF];exact k
abbrev NZ(Y U:V):List (Str×V):=[("must_be",Y),("spots",U)]
def Fn(t:Ad):Sp:=λvs H Q _=>X4 λ(p Y:Addr) (U T:V)=>Y3 (vs=[.ref p,U,T]) (H p=some (.ins t.Cut Y [])) (Q .aX (upd H p (.ins t.Cut Y (NZ U T))))
theorem Rr(T:Txt K mg t):aM P w K mg base bX 1 t.Hk t.xS ["self","must_be","spots"] (Fn t):=by
 refine T.FJ.ok Q6 (λvs H Q E h=>?_) (λO A Y s H vs Q E hr h=>?_)
 .obtain⟨p,U,N,M,rfl,_⟩:=h;rfl
 obtain⟨p,U,N,M,rfl,L,k⟩:=h;refine⟨_,ah (fo (pv 0) (pv 1) rfl) (ak (fo (pv 0) (pv 2) rfl)),?_⟩;refine⟨p,t.Cut,U,_,rfl,L,T.zo,T.yV,(by show 0<1000;decide),?_⟩
 refine⟨p,t.Cut,U,_,rfl,af,T.zo,T.pV,(by show 1<1000;decide),?_⟩
 rw[fF];exact k
abbrev yZ(Y U T Q:V):List (Str×V):=[("may_join",Y),("taken",U),("prices",T),("word_ends",Q)]
def tZ(t:Ad):Sp:=λvs H Q _=>X6 λ(p Y:Addr) (U T O N:V)=>Y3 (vs=[.ref p,U,T,O,N]) (H p=some (.ins t.gZ Y [])) (Q .aX (upd H p (.ins t.gZ Y (yZ U T O N))))
theorem BI(T:Txt K mg t):aM P w K mg base bX 1 t.An t.tO ["self","may_join","taken","prices","word_ends"] (tZ t):=by
 refine T.BG.ok MK (λvs H Q E h=>?_) (λO A U s H vs Q E hr h=>?_)
 .obtain⟨p,Y,N,M,L,J,rfl,_⟩:=h;rfl
 obtain⟨p,Y,N,M,L,J,rfl,I,k⟩:=h;refine⟨_,ah (fo (pv 0) (pv 1) rfl) (ah (fo (pv 0) (pv 2) rfl) (ah (fo (pv 0) (pv 3) rfl) (ak (fo (pv 0) (pv 4) rfl)))),?_⟩;refine⟨p,t.gZ,Y,_,rfl,I,T.fC,T.nM,(by show 0<1000;decide),?_⟩
 refine⟨p,t.gZ,Y,_,rfl,af,T.fC,T.jU,(by show 1<1000;decide),?_⟩
 rw[fF];refine⟨p,t.gZ,Y,_,rfl,af,T.fC,T.qK,(by show 2<1000;decide),?_⟩
 rw[fF];refine⟨p,t.gZ,Y,_,rfl,af,T.fC,T.mf,(by show 3<1000;decide),?_⟩
 rw[fF];exact k
abbrev Jf(Y U T:V):List (Str×V):=[("member",Y),("gain",U),("after",T)]
def wK(t:Ad):Sp:=λvs H Q _=>X5 λ(p Y:Addr) (U T O:V)=>Y3 (vs=[.ref p,U,T,O]) (H p=some (.ins t.Step Y [])) (Q .aX (upd H p (.ins t.Step Y (Jf U T O))))
theorem QH(T:Txt K mg t):aM P w K mg base bX 1 t.Em t.vy ["self","member","gain","after"] (wK t):=by
 refine T.El.ok Oz (λvs H Q E h=>?_) (λO A U s H vs Q E hr h=>?_)
 .obtain⟨p,Y,N,M,L,rfl,_⟩:=h;rfl
 obtain⟨p,Y,N,M,L,rfl,J,k⟩:=h;refine⟨_,ah (fo (pv 0) (pv 1) rfl) (ah (fo (pv 0) (pv 2) rfl) (ak (fo (pv 0) (pv 3) rfl))),?_⟩;refine⟨p,t.Step,Y,_,rfl,J,T.jR,T.jO,(by show 0<1000;decide),?_⟩
 refine⟨p,t.Step,Y,_,rfl,af,T.jR,T.C9,(by show 1<1000;decide),?_⟩
 rw[fF];refine⟨p,t.Step,Y,_,rfl,af,T.jR,T.nX,(by show 2<1000;decide),?_⟩
 rw[fF];exact k
abbrev mX(Y U T:V):List (Str×V):=[("syllable",Y),("met",U),("cost",T)]
def BS(t:Ad):Sp:=λvs H Q _=>X5 λ(p Y:Addr) (U T O:V)=>Y3 (vs=[.ref p,U,T,O]) (H p=some (.ins t.gG Y [])) (Q .aX (upd H p (.ins t.gG Y (mX U T O))))
theorem BY(T:Txt K mg t):aM P w K mg base bX 1 t.AX t.uv ["self","syllable","met","cost"] (BS t):=by
 refine T.Cb.ok MN (λvs H Q E h=>?_) (λO A U s H vs Q E hr h=>?_)
 .obtain⟨p,Y,N,M,L,rfl,_⟩:=h;rfl
 obtain⟨p,Y,N,M,L,rfl,J,k⟩:=h;refine⟨_,ah (fo (pv 0) (pv 1) rfl) (ah (fo (pv 0) (pv 2) rfl) (ak (fo (pv 0) (pv 3) rfl))),?_⟩;refine⟨p,t.gG,Y,_,rfl,J,T.eT,T.fE,(by show 0<1000;decide),?_⟩
 refine⟨p,t.gG,Y,_,rfl,af,T.eT,T.j4,(by show 1<1000;decide),?_⟩
 rw[fF];refine⟨p,t.gG,Y,_,rfl,af,T.eT,T.uD,(by show 2<1000;decide),?_⟩
 rw[fF];exact k
end
section
open PySem.W (findIn)
structure IsX(K:W.Frag)(t:Ad)(C:Addr):Prop where
 xk:LX.XK K C
 em:W.exmOne K (.ref C) (.ref t.Refusal)=some true
def Refs(K:W.Frag)(t:Ad)(E:L2.XK)(n:Int)(S:Hp->Prop):Prop:=∀(C U:Addr) (Y:Hp),IsX K t C->Y U=some (.xd [("number",.int n)])->S Y->E (.ref C) (some U) Y
section
def SpX(K:W.Frag)(n:Int)(e:Addr)(H:Hp)(Q:VK):Prop:=X2 λ(C T:Addr)=>Y3 (H e=some (XO e C T none)) (LX.XK K C) (∀(Y:Hp) (O U:Addr),Y e=some (XO e C O (some U))->Y U=some (.xd [("number",.int n)])->U≠e->(∀b o,b≠e->H b=some o->Y b=some o)->Q .aX Y)
def iZ(K:W.Frag):Sp:=λvs H Q _=>X2 λ(e:Addr) (n:Int)=>vs=[.ref e,.int n]/\SpX K n e H Q
theorem lG(T:Txt K mg t)(I:fM K t):aM P w K mg base bX 1 t.iz t.fg ["self","number"] (iZ K):=by
 refine T.xo.ok Jj (λvs H Q E h=>?_) (λG A Y s H vs Q E hr h=>?_)
 .obtain⟨e,n,rfl,_⟩:=h;rfl
 obtain⟨e,n,rfl,C,D,B,U,k⟩:=h;refine⟨_,ah (b8 (Ub rfl T.Qe I.ty (aa (pv 0) ai))) (ak (abF (pv 0) (pv 1) rfl)),?_⟩;refine⟨e,C,D,none,rfl,B,U,λL=>?_⟩;refine⟨e,C,L,rfl,af,U,U.no,λO hd=>?_⟩;have N:O≠e:=λz=>by rw[z,af]at hd;cases hd
 refine k _ L O af (by rw[aj N];exact af) N λb o J q=>?_
 have M:H O=none:=by rw[aj N]at hd;exact hd
 rw[aj J,aj (aO q M),aj J];exact q
def sY(K:W.Frag)(n:Int):Sp:=λvs H Q _=>∃(e:Addr),vs=[.ref e]/\SpX K n e H Q
theorem jG(T:Txt K mg t)(U:fM K t):aM P w K mg base bX 2 t.mU t.nh ["self"] (sY K (-1)):=by
 have G:aM P w K mg base bX 1 t.iz t.fg ["self","number"] (iZ K):=lG T U;refine T.uE.ok E1 (λvs H Q E h=>?_) (λO A Y s H vs Q E hr h=>?_)
 .obtain⟨e,rfl,_⟩:=h;rfl
 obtain⟨e,rfl,C,N,M,L,k⟩:=h;refine⟨_,ak (b8 (uV G hr rfl T.qG U.by_ (lC T) .nil aC (aa (pv 0) (aa (uZ sW (ax)) ai)))),?_⟩;exact⟨e,-1,rfl,C,N,M,L,λJ I D a b c d=>k J I D a b c d⟩
theorem qQ(T:Txt K mg t)(U:fM K t):aM P w K mg base bX 2 t.kI t.k9 ["self"] (sY K (-2)):=by
 have G:aM P w K mg base bX 1 t.iz t.fg ["self","number"] (iZ K):=lG T U;refine T.qW.ok Cf (λvs H Q E h=>?_) (λO A Y s H vs Q E hr h=>?_)
 .obtain⟨e,rfl,_⟩:=h;rfl
 obtain⟨e,rfl,C,N,M,L,k⟩:=h;refine⟨_,ak (b8 (uV G hr rfl T.qG U.by_ (lC T) .nil aC (aa (pv 0) (aa (uZ sW (ax)) ai)))),?_⟩;exact⟨e,-2,rfl,C,N,M,L,λJ I D a b c d=>k J I D a b c d⟩
theorem yP(T:Txt K mg t)(U:fM K t):aM P w K mg base bX 2 t.i6 t.jP ["self"] (sY K (-5)):=by
 have G:aM P w K mg base bX 1 t.iz t.fg ["self","number"] (iZ K):=lG T U;refine T.o7.ok zF (λvs H Q E h=>?_) (λO A Y s H vs Q E hr h=>?_)
 .obtain⟨e,rfl,_⟩:=h;rfl
 obtain⟨e,rfl,C,N,M,L,k⟩:=h;refine⟨_,ak (b8 (uV G hr rfl T.qG U.by_ (lC T) .nil aC (aa (pv 0) (aa (uZ sW (ax)) ai)))),?_⟩;exact⟨e,-5,rfl,C,N,M,L,λJ I D a b c d=>k J I D a b c d⟩
theorem nv(T:Txt K mg t)(U:fM K t):aM P w K mg base bX 2 t.mW t.nO ["self"] (sY K (-6)):=by
 have G:aM P w K mg base bX 1 t.iz t.fg ["self","number"] (iZ K):=lG T U;refine T.uG.ok EY (λvs H Q E h=>?_) (λO A Y s H vs Q E hr h=>?_)
 .obtain⟨e,rfl,_⟩:=h;rfl
 obtain⟨e,rfl,C,N,M,L,k⟩:=h;refine⟨_,ak (b8 (uV G hr rfl T.qG U.by_ (lC T) .nil aC (aa (pv 0) (aa (uZ sW (ax)) ai)))),?_⟩;exact⟨e,-6,rfl,C,N,M,L,λJ I D a b c d=>k J I D a b c d⟩
theorem gP{C:Addr}{n:Int}{E:L2.XK}{D:Ends}{σ:L2.St}{H:Hp}(x:IsX K t C)(h:Refs K t E n (aw H)):Wm C (sY K n) E D σ H:=by
 intro e T Q N;refine⟨e,rfl,C,T,af,x.xk,λM O U a b c d=>⟨rfl,O,U,a,h C U _ x (by rw[eN c];exact b) λy o q=>?_⟩⟩
 have Y:y≠e:=aO q Q;rw[eN Y];exact d y o Y (by rw[aj Y];exact q)
end
end
section
variable{dx:Addr}{fs:List (Str×V)}{pos:Pos}{ta:TE}
def Kb(f:Str)(v:V):List (Str×V)->List (Str×V)
 |[]=>[(f,v)]
 |(g,x)::r=>match g==f with|true=>(g,v)::r|false=>(g,x)::Kb f v r
theorem Kf{f:Str}{v:V}:∀r,Kb f v r=jv f v r
 |[]=>rfl
 |(g,x)::r=>by
  unfold Kb jv;by_cases h:g=f
  .subst h;rw[ag rfl,EW]
  rw[ae h,JK h,Kf r]
def Ww(C:Addr)(f:Str)(a:Addr)(H:Hp)(Q:VK):Prop:=PC C a H λ_ fs=>WQ (fs.lookup f) λv=>Q v H
theorem Zi{C a:Addr}{f:Str}{v:V}{H:Hp}{Q:VK}(h:H a=some (.ins C dx fs))(Y:fs.lookup f=some v):Ww C f a H Q=Q v H:=by
 unfold Ww;rw[UW h,Y];rfl
theorem ab0{C a:Addr}{H:Hp}{k:Addr->List (Str×V)->Prop}:PC C a (upd H a (.ins C dx fs)) k=k dx fs:=UW af
theorem acb{C a:Addr}{f:Str}{v:V}{H:Hp}{Q:VK}(Y:fs.lookup f=some v):Ww C f a (upd H a (.ins C dx fs)) Q=Q v (upd H a (.ins C dx fs)):=Zi af Y
def Wd(C:Addr)(ta:TE)(f:Str):TE:=λσ H Q=>ta σ H λx H1=>Fv x λa=>Ww C f a H1 Q
theorem aF{X:Cx}{C:Addr}{e:Expr}{f:Str}(cl:j9 X.K C)(T:bC X.K C f)(O:PE X e ta)(N:attributeBase e f X.env (eval e X.env)=eval e X.env:=by rfl):PE X (.Attribute e f pos) (Wd C ta f):=by
 intro pins s σ H Q I h;refine KU N (aZ (O pins s σ H _ I h) λu B Y=>?_);mleft;obtain⟨x,H1,M,L,U⟩:=Y;mright;obtain⟨a,J,dx,fs,G,U⟩:=oZ.mp U;obtain⟨v,l,q⟩:=RJ.mp U;subst J;obtain rfl:u=Value.ref a:=L;exact u0 M G cl T l λA z E D=>⟨v,H1,E,D,q⟩
def sFC(C:Addr)(ta U:TE)(f:Str):TS:=λD σ H=>U σ H λy H1=>ta σ H1 λx Y=>Fv x λa=>PC C a Y λdx fs=>fs.length<1000/\D.nx σ (upd Y a (.ins C dx (Kb f y fs)))
theorem g9{X:Cx}{C:Addr}{o Y:Expr}{f:Str}{U:Pos}{Q:TE}(cl:j9 X.K C)(N:bC X.K C f)(M:PE X o ta)(L:PE X Y Q)(J:swapsWith Y (some (.Attribute o f U)) pos.line X.env=pure false:=by rfl):PS X (.Assign [.Attribute o f U] Y pos) (sFC C ta Q f):=by
 intro pins s σ H D I h;refine S3 (aZ (L pins s σ H _ I h) λu G ⟨y,H1,E,B,q⟩=>aZ (M pins G σ H1 _ E q) λA j T=>?_) J;mleft;obtain⟨x,i,z,v,r⟩:=T;mright;obtain⟨a,p,dx,fs,n,l,O⟩:=oZ.mp r;subst p;obtain rfl:A=Value.ref a:=v;rw[Kf]at O;exact uW z n cl N l B λg m=>⟨σ,_,m,O⟩
def abW(C:Addr)(ta Q:TE)(O:V->V->Hp->VK->Prop)(f:Str):TS:=λD σ H=>ta σ H λx H1=>Fv x λa=>Ww C f a H1 λv _ =>
 Q σ H1 λy N=>O v y N λz T=>PC C a T λU Y=>Y.length<1000/\D.nx σ (upd T a (.ins C U (Kb f z Y)))
theorem JS{X:Cx}{C:Addr}{o Y:Expr}{f:Str}{T:Pos}{M:TE}{L:Operator}{J:V->V->Hp->VK->Prop}(cl:j9 X.K C)(G:bC X.K C f)(B:PE X o ta)(A:PE X Y M)(Q:Tv X L J):PS X (.AugAssign (.Attribute o f T) L Y pos) (abW C ta M J f):=by
 intro pins s σ H D I h;refine wpAny_AugAssign_AttributeAny (aZ (B pins s σ H _ I h) λr s1 U=>?_);mleft;obtain⟨x,H1,p,n,O⟩:=U;mright;obtain⟨a,m,dx,fs,j,O⟩:=oZ.mp O;obtain⟨v,l,q⟩:=RJ.mp O;subst m;obtain rfl:r=Value.ref a:=n;refine u0 p j cl G l λu i g e=>aZ (A pins i σ H1 _ g q) λd c ⟨y,b,I3,ry,q3⟩=>aZ (Q pins c σ b v y u d _ I3 e ry q3) λw4 s4 U=>?_;mleft;obtain⟨z,H3,I4,rz,ab,al,N,l',E⟩:=U;mright;rw[Kf]at E;exact uW I4 N cl G l' rz λs5 I5=>⟨σ,_,I5,E⟩
theorem nes:(("after":Str)=="gain")=false/\(("after":Str)=="member")=false/\(("ahead":Str)=="numbers")=false/\(("all_met":Str)=="forks")=false/\(("all_met":Str)=="gains")=false/\(("all_met":Str)=="goal")=false/\(("all_met":Str)=="places")=false/\(("all_met":Str)=="steps")=false/\(("at":Str)=="numbers")=false/\(("cost":Str)=="count")=false/\(("cost":Str)=="met")=false/\(("cost":Str)=="row")=false/\(("cost":Str)=="syllable")=false/\(("cost":Str)=="syllables")=false/\(("cost":Str)=="ways")=false/\(("count":Str)=="cost")=false/\(("count":Str)=="syllables")=false/\(("count":Str)=="ways")=false/\(("ends":Str)=="joins")=false/\(("ends":Str)=="weights")=false/\(("fitting":Str)=="fitting_ends")=false/\(("fitting":Str)=="fitting_within")=false/\(("fitting":Str)=="last")=false/\(("fitting":Str)=="may_join")=false/\(("fitting_ends":Str)=="fitting")=false/\(("fitting_ends":Str)=="fitting_within")=false/\(("fitting_ends":Str)=="last")=false/\(("fitting_ends":Str)=="may_join")=false/\(("fitting_within":Str)=="fitting")=false/\(("fitting_within":Str)=="fitting_ends")=false/\(("fitting_within":Str)=="last")=false/\(("fitting_within":Str)=="may_join")=false/\(("forks":Str)=="all_met")=false/\(("forks":Str)=="goal")=false/\(("forks":Str)=="steps")=false/\(("gain":Str)=="after")=false/\(("gain":Str)=="member")=false/\(("gains":Str)=="all_met")=false/\(("gains":Str)=="places")=false/\(("goal":Str)=="all_met")=false/\(("goal":Str)=="forks")=false/\(("goal":Str)=="steps")=false/\(("joins":Str)=="ends")=false/\(("joins":Str)=="weights")=false/\(("last":Str)=="fitting")=false/\(("last":Str)=="fitting_ends")=false/\(("last":Str)=="fitting_within")=false/\(("last":Str)=="may_join")=false/\(("may_join":Str)=="fitting")=false/\(("may_join":Str)=="fitting_ends")=false/\(("may_join":Str)=="fitting_within")=false/\(("may_join":Str)=="last")=false/\(("may_join":Str)=="prices")=false/\(("may_join":Str)=="taken")=false/\(("may_join":Str)=="word_ends")=false/\(("member":Str)=="after")=false/\(("member":Str)=="gain")=false/\(("met":Str)=="cost")=false/\(("met":Str)=="syllable")=false/\(("must_be":Str)=="spots")=false/\(("numbers":Str)=="ahead")=false/\(("numbers":Str)=="at")=false/\(("places":Str)=="all_met")=false/\(("places":Str)=="gains")=false/\(("prices":Str)=="may_join")=false/\(("prices":Str)=="taken")=false/\(("prices":Str)=="word_ends")=false/\(("row":Str)=="cost")=false/\(("spots":Str)=="must_be")=false/\(("steps":Str)=="all_met")=false/\(("steps":Str)=="forks")=false/\(("steps":Str)=="goal")=false/\(("syllable":Str)=="cost")=false/\(("syllable":Str)=="met")=false/\(("syllables":Str)=="cost")=false/\(("syllables":Str)=="count")=false/\(("syllables":Str)=="ways")=false/\(("taken":Str)=="may_join")=false/\(("taken":Str)=="prices")=false/\(("taken":Str)=="word_ends")=false/\(("ways":Str)=="cost")=false/\(("ways":Str)=="count")=false/\(("ways":Str)=="syllables")=false/\(("weights":Str)=="ends")=false/\(("weights":Str)=="joins")=false/\(("word_ends":Str)=="may_join")=false/\(("word_ends":Str)=="prices")=false/\(("word_ends":Str)=="taken")=false:=by and_intros<;>rfl
theorem Yj(a b:Int):XN (V.int a) (V.int b)=true:=rfl
end
section
variable{H' H4:Hp}{S:Nat->List V->Hp->Prop}
theorem VH{CX:sO}{P:Program}{w:World}{K:W.Frag}{mg:Str->Option Value}{base:Heap}{N:List Str}{T:Str}{Y:Scope}{f:Addr}{Q:Value}{A:Around}{U:List Env}{s:Shared}{H:Hp}{E:L2.XK} :
  (vO CX P w K mg base N T Y f Q A U s H E).K=K:=rfl
theorem sN{K:W.Frag}{H:Hp}{a:Addr}{xs:List V}(h:H a=some (.lst xs)):ZD K "list" (.ref a) H:=.inl ⟨rfl,xs,.of h⟩
def emp:Hp:=λ_=>none
theorem aan{H:Hp}:nw H H=emp:=by
 funext b;unfold nw emp;cases h:H b with
 |none=>rfl
 |some o=>rfl
theorem Jy{A:Hp}{D:Addr}{o q:HO}(h:A D=some q):nw A (upd H' D o)=nw A H':=by
 funext b;unfold nw;by_cases z:b=D
 .rw[z,h]
 cases A b with
 |none=>exact aj z
 |some o=>rfl
def dW(H1:Hp)(D:Addr)(S:Nat->List V->Hp->Prop)(i:Nat)(H':Hp):Prop:=aw H1 H'/\∃ys,H' D=some (.lst ys)/\S i ys (nw (upd H1 D (.lst [])) H')
theorem dW.zero{H1:Hp}{D:Addr}(Y:H1 D=none)(h:S 0 [] emp):dW H1 D S 0 (upd H1 D (.lst [])):=
 ⟨au Y,[],af,by rw[aan];exact h⟩
theorem dW.next{H1:Hp}{D:Addr}{i:Nat}{ys:List V}{y:V}(Y:H1 D=none)(U:aw H1 H4)(T:H4 D=some (.lst ys))(hz:ys.length<sizeLine)(h:S (i+1) (ys++[y]) (nw (upd H1 D (.lst [])) H4)) :
  ∃acc,H4 D=some (.lst acc)/\acc.length<sizeLine/\dW H1 D S (i+1) (upd H4 D (.lst (acc++[y]))):=by
 refine⟨ys,T,hz,λb o q=>?_,ys++[y],af,?_⟩
 .rw[aj (aO q Y)];exact U b o q
 rw[Jy af];exact h
theorem dW.skip{H1:Hp}{D:Addr}{i:Nat}{ys:List V}(Y:aw H1 H4)(U:H4 D=some (.lst ys))(h:S (i+1) ys (nw (upd H1 D (.lst [])) H4)):dW H1 D S (i+1) H4:=⟨Y,ys,U,h⟩
def iJ(xs:List V)(f:V->V):Nat->List V->Hp->Prop:=λi ys _=>ys=(xs.take i).map f
theorem iJ.next{H1:Hp}{D:Addr}{xs:List V}{f:V->V}{i:Nat}{x y:V}(p:dW H1 D (iJ xs f) i H')(Y:xs[i]?=some x)(Q:y=f x)(T:aw H' H4)(O:H1 D=none)(hz:xs.length<=sizeLine) :
  ∃acc,H4 D=some (.lst acc)/\acc.length<sizeLine/\dW H1 D (iJ xs f) (i+1) (upd H4 D (.lst (acc++[y]))):=by
 obtain⟨N,ys,U,e⟩:=p;have lt:=(dE.mp Y).1;refine dW.next O (N.trans T) (T _ _ U) ?_ ?_
 .rw[e,bG,iA];lia
 show _=_;rw[Ke lt,e];have e:xs[i]=x:=by
  rw[cu lt]at Y;exact cp Y
 rw[e,Q];simp
theorem iJ.done{H1:Hp}{D:Addr}{xs:List V}{f:V->V}(p:dW H1 D (iJ xs f) xs.length H'):H' D=some (.lst (xs.map f)):=by
 obtain⟨_,ys,h,e⟩:=p;unfold iJ at e;rw[eG]at e;rw[h,e]
end
section
variable{q:Nat}
section
variable{K:W.Frag}{tl te:TE}{ta:TA}{g:TG}{tt:TT}{vs:List Nat}{σ:L2.St}{H H1:Hp}{Q:VK}{a:Addr}{xs:List V}{tb:TS}{D:Ends}
abbrev Nxt(H1:Hp)(D:Addr)(S:Nat->List V->Hp->Prop)(i:Nat)(y:V)(Y:Hp):Prop:=∃acc,Y D=some (.lst acc)/\acc.length<sizeLine/\dW H1 D S (i+1) (upd Y D (.lst (acc++[y])))
theorem BV(U:∀R:VK,R (.ref a) H1->tl σ H R)(N:dn K H1 a xs)(S:Nat->List V->Hp->Prop)(L:S 0 [] emp)
  (J:∀D i x Y,H1 D=none->xs[i]?=some x->dW H1 D S i Y->g x (wipe σ vs) Y λT I=>wipe T vs=wipe σ vs/\tt T I λb M=>if b=true then te T M λy G=>Nxt H1 D S i y G else dW H1 D S (i+1) M)
  (hd:∀D Y,H1 D=none->dW H1 D S xs.length Y->Q (.ref D) Y):vV (Az K tl) g tt te vs σ H Q:=
 U _ ⟨a,rfl,⟨xs,N⟩,λD O=>ZS (dW H1 D S) (dW.zero O L) (λi Y _ p=>p.1.seq N) (λi x Y E p=>J D i x Y O E p) (λY p=>hd D Y O p)⟩
theorem Tn{n:Int}(U:∀R:List V->Hp->Prop,R [.int n] H1->ta σ H R)(M:-(2 ^ 62)<=n)(L:n<2 ^ 62)(S:Nat->List V->Hp->Prop)(J:S 0 [] emp)
  (I:∀D i Y,H1 D=none->i<n.toNat->dW H1 D S i Y->g (.int i) (wipe σ vs) Y λT G=>wipe T vs=wipe σ vs/\tt T G λb N=>if b=true then te T N λy E=>Nxt H1 D S i y E else dW H1 D S (i+1) N)
  (hd:∀D Y,H1 D=none->dW H1 D S n.toNat Y->Q (.ref D) Y):vV (M8 ta) g tt te vs σ H Q:=
 U _ ⟨n,rfl,M,L,λD O=>Pf (dW H1 D S) (dW.zero O J) (λi Y C p=>by have:=I D i Y O C p;rw[<-Int.zero_add (i:Int)]at this;exact this) (λY p=>hd D Y O p)⟩
theorem ZQ{a:Addr}{xs:List V}{g:TG}{tt:TT}{te:TE}{vs:List Nat}{σ:L2.St}{H1:Hp}{D:Addr}{J:Hp->Prop}(Pv:Nat->Hp->Prop)(G:Pv 0 (upd H1 D (.lst [])))(E:∀i H,i<=xs.length->Pv i H->dn K H a xs)
  (C:∀i x H T,xs[i]?=some x->Pv i H->H T=none->g (.ref T) (wipe σ vs) (upd H T (.tup [.int (i:Nat),x])) λY M=>wipe Y vs=wipe σ vs/\tt Y M λb Q =>
   if b=true then te Y Q λy O=>∃acc,O D=some (.lst acc)/\acc.length<sizeLine/\Pv (i+1) (upd O D (.lst (acc++[y])))else Pv (i+1) Q) (hd:∀H,Pv xs.length H->J H) :
  ∃W:Nat->Nat->Hp->Prop,(∃m,W 0 m (upd H1 D (.lst [])))/\∀i m H,W i m H->
   ((Wf K a).stop i H/\J H)\/((Wf K a).go i H/\∃L:Hp->Prop,(∀U,L U->∃I,I<m/\W (i+1) I U)/\∀x U,(Wf K a).IE i H x U->g x (wipe σ vs) U λY M=>wipe Y vs=wipe σ vs/\tt Y M λb Q =>
    if b=true then te Y Q λy O=>∃acc,O D=some (.lst acc)/\acc.length<sizeLine/\L (upd O D (.lst (acc++[y])))else L Q):=by
 refine⟨λi m H=>m=xs.length - i/\i<=xs.length/\Pv i H,⟨xs.length,by simp,dy _,G⟩,?_⟩
 rintro i m H ⟨rfl,B,p⟩;have q:=E i H B p;by_cases N:i<xs.length
 .refine .inr ⟨⟨xs,xs[i],q,by simp[N]⟩,Pv (i+1),λU A=>⟨xs.length - (i+1),ao,rfl,N,A⟩,λx U y=>?_⟩
  obtain⟨T,z,e,v,u,y⟩:=y;subst e u;exact C i z _ T (y xs q) p v
 have e:i=xs.length:=by lia
 subst e;exact .inl ⟨⟨xs,q,bD _⟩,hd H p⟩
theorem T2{x y:V}{T:Addr}{p:Nat}{σ:L2.St}{H:Hp}{R:L2.St->Hp->Prop}(h:H T=some (.tup [x,y]))(r:R ((σ.set p (some x)).set q (some y)) H):Ba K 2 (lu (fi p) (lu (fi q) C6)) (.ref T) σ H R:=
 ⟨[x,y],.of h,rfl,r⟩
theorem dW.grow{H1 Y:Hp}{D T:Addr}{S:Nat->List V->Hp->Prop}{i:Nat}{o:HO}(p:dW H1 D S i Y)(Q:Y T=none)(mono:∀ys A B,aw A B->S i ys A->S i ys B):dW H1 D S i (upd Y T o):=by
 obtain⟨s,ys,O,h⟩:=p;have U:=au (o:=o) Q;exact⟨s.trans U,ys,U _ _ O,mono _ _ _ (kn λb u _ q=>U b u q) h⟩
theorem VP{p:Nat}(U:∀R:List V->Hp->Prop,R [.ref a] H1->ta σ H R)(N:dn K H1 a xs)(S:Nat->List V->Hp->Prop)(mono:∀i ys A B,aw A B->S i ys A->S i ys B)(L:S 0 [] emp)
  (J:∀D i x Y,H1 D=none->xs[i]?=some x->dW H1 D S i Y->wipe (((wipe σ vs).set p (some (.int i))).set q (some x)) vs=wipe σ vs/\tt (((wipe σ vs).set p (some (.int i))).set q (some x)) Y λb M=>if b=true then te (((wipe σ vs).set p (some (.int i))).set q (some x)) M λy I=>Nxt H1 D S i y I else dW H1 D S (i+1) M)
  (hd:∀D Y,H1 D=none->dW H1 D S xs.length Y->Q (.ref D) Y):vV (Nq K ta) (Ba K 2 (lu (fi p) (lu (fi q) C6))) tt te vs σ H Q:=
 U _ ⟨a,xs,rfl,N,λD O=>ZQ (dW H1 D S) (dW.zero O L) (λi Y _ p=>p.1.seq N) (λi x Y T G p E=>T2 af (J D i x _ O G (p.grow E (mono i)))) (λY p=>hd D Y O p)⟩
theorem forL(Y:∀R:VK,R (.ref a) H1->tl σ H R)(T:dn K H1 a xs)(Pv:Nat->L2.St->Hp->Prop)(Q:Pv 0 σ H1)(O:∀i σ H,i<=xs.length->Pv i σ H->dn K H a xs)
  (N:∀i x σ H,xs[i]?=some x->Pv i σ H->g x σ H λU M=>tb { D with nx:=Pv (i+1),ct:=Pv (i+1),bk:=D.nx } U M) (hd:∀σ H,Pv xs.length σ H->D.nx σ H):wy (Az K tl) g tb D σ H:=
 Y _ ⟨a,rfl,⟨xs,T⟩,Yf Pv Q O N hd⟩
theorem JR{n:Int}(Y:∀R:List V->Hp->Prop,R [.int n] H1->ta σ H R)(T:-(2 ^ 62)<=n)(Q:n<2 ^ 62)(Pv:Nat->L2.St->Hp->Prop)(O:Pv 0 σ H1)
  (N:∀i σ H,i<n.toNat->Pv i σ H->g (.int i) σ H λU M=>tb { D with nx:=Pv (i+1),ct:=Pv (i+1),bk:=D.nx } U M) (hd:∀σ H,Pv n.toNat σ H->D.nx σ H):wy (M8 ta) g tb D σ H:=
 Y _ ⟨n,rfl,T,Q,Lg Pv O (λi σ H L p=>by have:=N i σ H L p;rw[<-Int.zero_add (i:Int)]at this;exact this) hd⟩
theorem Uv{m n:Int}(Y:∀R:List V->Hp->Prop,R [.int m,.int n] H1->ta σ H R)(T:-(2 ^ 62)<=m/\m<2 ^ 62/\-(2 ^ 62)<=n/\n<2 ^ 62)(Pv:Nat->L2.St->Hp->Prop)(Q:Pv 0 σ H1)
  (O:∀i σ H,i<(n - m).toNat->Pv i σ H->g (.int (m+i)) σ H λU N=>tb { D with nx:=Pv (i+1),ct:=Pv (i+1),bk:=D.nx } U N) (hd:∀σ H,Pv (n - m).toNat σ H->D.nx σ H):wy (YV ta) g tb D σ H:=
 Y _ ⟨m,n,rfl,T,Lg Pv Q O hd⟩
theorem acf{m:Nat}(Y:∀R:List V->Hp->Prop,R [.int ((m:Int) - 1),.int (-1),.int (-1)] H1->ta σ H R)(b:m<2 ^ 60)(Pv:Nat->L2.St->Hp->Prop)(T:Pv 0 σ H1)
  (Q:∀i σ H,i<m->Pv i σ H->g (.int ((m - 1 - i:Nat):Int)) σ H λU O=>tb { D with nx:=Pv (i+1),ct:=Pv (i+1),bk:=D.nx } U O) (hd:∀σ H,Pv m σ H->D.nx σ H):wy (Za ta) g tb D σ H:=by
 refine Y _ ⟨(m:Int) - 1,-1,-1,m,rfl,?_,Ux Pv T (λi σ H N p=>?_) hd⟩
 .have e:=Ze.neg (i:=(m:Int) - 1) (j:=-1) ao ao ao ao;rw[show((m:Int) - 1 - -1).toNat=m by lia]at e
  exact e
 have:=Q i σ H N p;rw[show((m:Int) - 1+(i:Nat)*(-1:Int))=((m - 1 - i:Nat):Int)by lia]
 exact this
theorem AA{p:Nat}(Y:∀R:List V->Hp->Prop,R [.ref a] H1->ta σ H R)(Q:dn K H1 a xs)(Pv:Nat->L2.St->Hp->Prop)(O:Pv 0 σ H1)(N:∀i σ H,i<=xs.length->Pv i σ H->dn K H a xs)(grow:∀i σ H T o,H T=none->Pv i σ H->Pv i σ (upd H T o))
  (M:∀i x σ H,xs[i]?=some x->Pv i σ H->tb { D with nx:=Pv (i+1),ct:=Pv (i+1),bk:=D.nx } ((σ.set p (some (.int i))).set q (some x)) H) (hd:∀σ H,Pv xs.length σ H->D.nx σ H):wy (Nq K ta) (Ba K 2 (lu (fi p) (lu (fi q) C6))) tb D σ H:=by
 refine Y _ ⟨a,xs,rfl,Q,λi m σ H=>m=xs.length - i/\i<=xs.length/\Pv i σ H,⟨xs.length,by simp,dy _,O⟩,?_⟩
 rintro i m σ H ⟨rfl,L,p⟩;have q:=N i σ H L p;by_cases U:i<xs.length
 .refine .inr ⟨⟨xs,xs[i],q,by simp[U]⟩,Pv (i+1),λJ I G=>⟨xs.length - (i+1),ao,rfl,U,G⟩,λx I y=>?_⟩
  obtain⟨T,z,e,E,C,y⟩:=y;subst e C;exact T2 af (M i z σ _ (y xs q) (grow i σ H T _ E p))
 have e:i=xs.length:=by lia
 subst e;exact .inl ⟨⟨xs,q,bD _⟩,hd σ H p⟩
theorem acS(Y:∀R:List V->Hp->Prop,R [.ref a] H1->ta σ H R)(Q:dn K H1 a xs)(Pv:Nat->L2.St->Hp->Prop)(O:Pv 0 σ H1)(N:∀i σ H,i<=xs.length->Pv i σ H->dn K H a xs)
  (M:∀i x σ H,i<xs.length->xs[xs.length - 1 - i]?=some x->Pv i σ H->g x σ H λT L=>tb { D with nx:=Pv (i+1),ct:=Pv (i+1),bk:=D.nx } T L) (hd:∀σ H,Pv xs.length σ H->D.nx σ H):wy (abD K ta) g tb D σ H:=by
 refine Y _ ⟨a,xs,rfl,Q,λi m σ H=>m=xs.length - i/\i<=xs.length/\Pv i σ H,⟨xs.length,by simp,dy _,O⟩,?_⟩
 rintro i m σ H ⟨rfl,J,p⟩;have q:=N i σ H J p;by_cases U:i<xs.length
 .refine .inr ⟨⟨U,xs,xs[xs.length - 1 - i],q,by simp⟩,Pv (i+1),λI G E=>⟨xs.length - (i+1),ao,rfl,U,E⟩,λx G y=>?_⟩
  obtain⟨e,y⟩:=y;subst e;exact M i x σ _ U (y xs q) p
 have e:i=xs.length:=by lia
 subst e;exact .inl ⟨bD _,hd σ H p⟩
end
end
end VS
namespace LX
open PySem PySem.Spec PyProof.Rows L2
variable{kvs:List (List Key×V)}{ep:Nat}{td:TE}{od:Obj}{σ:L2.St}{apos cpos:PySem.Pos}
section
variable{prog:Program}{w:World}{A:Around}{E:b7}{s:Shared}
abbrev Ma:="dict_itemiterator"
theorem Ya{Y d:Addr}{i n:Nat}{z:Array DictEntry}{U:DictEntry}{C x7:Value}{Q:Option Value->Shared->Prop}(st:IsItemIter s.heap Y d i n ep C x7)(q:s.heap.get? d=some od)(p:od.data=.dict z ep)(sz:z.size=n)(at_:z[i]?=some U)
  (k:∀h',IsItemIterOut h' Y d (i+1) n ep U.key U.val s.heap.objs.size->h'.get? s.heap.objs.size=some { cls:=.type "tuple",data:=.seq #[U.key,U.val] }->(∀b o,b≠Y->s.heap.get? b=some o->h'.get? b=some o)->Q (some (.ref s.heap.objs.size)) { s with heap:=h' }) :
  wpAny (model prog w) A (pyNext (.ref Y)) Q E s:=by
 mleft;obtain⟨T,g,L,tk,os⟩:=s;mright;obtain⟨lt,y⟩:=Oi.mp at_;have M:Shared.TypeIs ⟨T,g,L,tk,os⟩ (.ref Y) Ma:=⟨_,st,rfl⟩;have own:Builtin.Dict_items.ownsTuple Ma=true:=by decide
 unfold pyNext;refine aA (wpAny_attempt (wpAny_callSpecial?_slot (name:=Str.ofString "__next__") M Ny (Nu Ny M F.entry_dict_itemiterator_next (aA (bf (aA (aA ?_)))) (F.args_dict_itemiterator_next_1 _))));first|refine aA (Nw M (bf (aA (NY st rfl ?_))))|refine aA (NO M (bf (aA (NY st rfl ?_))))
 simp only[own,dB];show wpAny _ _ (if (Value.ref d==Value.none)=true then _ else _) _ _ (⟨T,g,L,tk,os⟩:Shared)
 rw[ae (show ¬(Value.ref d==Value.none)=true by simp)]
 refine aA (bf (aA (HN q p ?_)));rw[ae (show ¬_ by simp[sz])]
 refine aA (bf (aA (T6 q p ?_)));rw[ae (show ¬_ by simp)]
 refine bf ?_;simp only[show ¬((i:Int)<0)by lia,gA,nc,Array.getElem?_eq_getElem lt,y]
 refine aA ?_;first|refine aA (Nw M (bf (aA (Nf M ?_))))|refine aA (NO M (bf (aA (Nf M ?_))))
 show wpAny _ _ (setField (.ref Y) 3 (rawInt ((i:Int)+1)) >>= _) _ _ (⟨T,g,L,tk,os⟩:Shared);refine aA (Hr st aP λh1 j f=>?_);have I:IsItemIter h1 Y d (i+1) n ep C x7:=by
  unfold IsItemIter;rw[show((i+1:Nat):Int)=(i:Int)+1 by lia]
  simpa[rawInt]using j
 have H:Shared.TypeIs ⟨h1,g,L,tk,os⟩ (.ref Y) Ma:=⟨_,I,rfl⟩;refine aA (wX (aA (Nf H (aA (Nf H ?_)))));show wpAny _ _ (Builtin.Dict_items.pairFromOwner (.ref Y) 6 U.key U.val) _ _ (⟨h1,g,L,tk,os⟩:Shared);unfold Builtin.Dict_items.pairFromOwner;have G:Heap.SameBut Y T h1:=f;have m:h1.objs.size=T.objs.size:=G.1;have c:Y<T.objs.size:=bV st;obtain⟨J,O⟩:∃J,J=h1.push { cls:=.type "tuple",data:=.seq #[U.key,U.val] }:=⟨_,rfl⟩;have B:IsItemIter J Y d (i+1) n ep C x7:=by rw[O];exact cA _ I
 have a:J.get? T.objs.size=some { cls:=.type "tuple",data:=.seq #[U.key,U.val] }:=by rw[O,<-m];exact eR _ rfl
 have k2:∀b o,b≠Y->T.get? b=some o->J.get? b=some o:=λb o N e=>by rw[O];exact cA _ (G.extBut b o N e)
 refine aA (wpAny_newTuple ?_);show wpAny _ _ (Builtin.Dict_items.ownedTupleIsFree (.ref Y) >>= _) _ _ (⟨h1.push { cls:=.type "tuple",data:=.seq #[U.key,U.val] },g,L,tk,os⟩:Shared);rw[<-O,m];unfold Builtin.Dict_items.ownedTupleIsFree;refine aA (aA (qh B rfl (x:=.none) rfl (bf ?_)));simp only[dB];refine aA (qh B rfl (x:=C) rfl (aA (qh B rfl (x:=x7) rfl ?_)));refine aA (Hr B aP λh3 e3 s3=>?_);have v:IsItemIter h3 Y d (i+1) n ep U.key x7:=e3;refine aA (Hr v aP λh4 e4 s4=>?_);have u:IsItemIter h4 Y d (i+1) n ep U.key U.val:=e4;refine aA (Hr u aP λh5 e5 s5=>?_);have r:IsItemIterOut h5 Y d (i+1) n ep U.key U.val T.objs.size:=e5;refine aA (Hr r aP λl e6 s6=>?_);have D:∀b o,b≠Y->J.get? b=some o->l.get? b=some o:=λb o N e=>Nc s6 b o N (Nc s5 b o N (Nc s4 b o N (Nc s3 b o N e)));exact aA (wpAny_letGo (bf (bf ⟨_,rfl,bf (k l e6 (D _ _ (Aw c) a) λb o N e=>D b o N (k2 b o N e))⟩)))
theorem W0{U d:Addr}{i n:Nat}{O:Array DictEntry}{L J:Value}{Q:Option Value->Shared->Prop}(I:A.handled=none)(st:IsItemIter s.heap U d i n ep L J)(N:s.heap.get? d=some od)(M:od.data=.dict O ep)(sz:O.size=n)(H:n<=i)
  (k:∀h',Heap.ExtBut U s.heap h'->Q none { s with heap:=h' }):wpAny (model prog w) A (pyNext (.ref U)) Q E s:=by
 have Y:s.TypeIs (.ref U) Ma:=⟨_,st,rfl⟩;have own:Builtin.Dict_items.ownsTuple Ma=true:=by decide
 unfold pyNext;refine aA (wpAny_attempt (wpAny_callSpecial?_slot (name:=Str.ofString "__next__") Y Ny (Nu Ny Y F.entry_dict_itemiterator_next (aA (bf (aA (aA ?_)))) (F.args_dict_itemiterator_next_1 _))));first|refine aA (Nw Y (bf (aA (NY st rfl ?_))))|refine aA (NO Y (bf (aA (NY st rfl ?_))))
 simp only[own,dB];show wpAny _ _ (if (Value.ref d==Value.none)=true then _ else _) _ _ (s:Shared)
 rw[ae (show ¬(Value.ref d==Value.none)=true by simp)]
 refine aA (bf (aA (HN N M ?_)));rw[ae (show ¬_ by simp[sz])]
 refine aA (bf (aA (T6 N M ?_)));rw[ae (show ¬_ by simp)]
 refine bf ?_;simp only[show ¬((i:Int)<0)by lia,gA,nc,Array.getElem?_eq_none (show O.size<=i by lia)]
 refine aA ?_;first|refine aA (Nw Y (bf ?_))|refine aA (NO Y (bf ?_))
 show wpAny _ _ (setField (.ref U) 2 .none >>= _) _ _ (s:Shared);refine aA (Jb st rfl aP ?_);show wpAny _ _ (newExc (.type "StopIteration") [] >>= _) _ _ (_:Shared);refine aA ?_;simp only[newExc,newTuple];refine aA (z8 (aA (m:=firstArgMember _ _) (wpAny_of_eq (a:=Value.none) (by first|rfl|(simp only[firstArgMember];rfl)) (z8 ?_ (by size_fits)))) (by size_fits))
 simp only[raiseNew];refine aA (wpAny_handled ?_);rw[show A.in1.handled=none from I];refine aA (bf (wpAny_throw ?_));refine aA (wpAny_isInstance (T:="StopIteration") (b:=true) ⟨_,eR _ rfl,rfl⟩ isSubtype_stop (bf (k _ ?_)));exact((TQ ..).extBut.push _).push _
theorem VJ{v d:Addr}{U:Array DictEntry}{Q:b7}(Y:s.heap.IsItemsView v d)(T:s.heap.get? d=some od)(O:od.data=.dict U ep)
  (k:Q (.ref s.heap.objs.size) { s with heap:=s.heap.push { cls:=.type Ma,data:=.fields #[.none,.bool false,.ref d,.int 0 0,.int U.size 0,.int ep 0,.none,.none] } }):wpAny (model prog w) A (pyIter (.ref v)) Q E s:=by
 mleft;obtain⟨L,N,_,M⟩:=id Y;mright;have own:Builtin.Dict_items.ownsTuple Ma=true:=by decide
 refine wpAny_pyIter_slot Y.typeIs F.slot_dict_items_iter (Nu F.slot_dict_items_iter Y.typeIs F.entry_dict_items_iter ?_ (F.args_dict_items_iter_1 _));unfold Builtin.«dict_items.__iter__» Builtin.Dict_items.dictOf Builtin.Dict_items.newIterator;refine aA (bf (aA (aA (qh N M (x:=.ref d) rfl (bf (aA (aA (HN T O (aA (T6 T O ?_))))))))));simp only[own,dB];refine z8 (bf ⟨_,rfl,Ma,_,⟨_,eR _ rfl,rfl⟩,F.slot_dict_itemiterator_next.lookup,?_⟩) (by simp only[sizeOk,Builtin.Dict_items.ownedTupleFields,eu,ee,cT,oH,IS];lia)
 simpa[rawInt,Builtin.Dict_items.ownedTupleFields]using k
end
section
variable{P:Program}{w:World}{K:W.Frag}
def abB(d:Addr)(o:Obj)(kvs:List (List Key×V)):It:=
 ⟨λi H=>H d=some (.cV o (.dT kvs))/\i<kvs.length,λi H x Y=>X4 λT k v q=>Y5 (kvs[i]?=some (k,v)) (x=.ref T) (H q=some (.tup (k.map kV))) (H T=none) (Y=upd H T (.tup [.ref q,v])),λi H=>H d=some (.cV o (.dT kvs))/\kvs.length<=i⟩
theorem S9{X:Cx}{pins:bO}{H:Hp}{s:Shared}{d:Addr}{o:Obj}(I:Inv X pins σ H s)(h:H d=some (.cV o (.dT kvs))) :
  (d==sysModules)=false/\s.heap.get? d=some o/\o.ExactDict/\∃(Y:Array DictEntry) (ep:Nat),o.data=.dict Y ep/\Y.size=kvs.length/\
   ∀(i:Nat) (k:List Key) (v:V),kvs[i]?=some (k,v)->∃(U:DictEntry) (q:Addr),Y[i]?=some U/\U.key=.ref q/\H q=some (.tup (k.map kV))/\RelV v U.val:=by
 mleft;obtain⟨hd,z,M,xs,Q,D,Y,ep,O,L,T,N,_⟩:=I.aQ d _ h;mright;rw[hd]at O;cases O;refine⟨M,hd,L,Y,ep,T,?_,λi k v e=>?_⟩
 .have C:Y.size=xs.length:=UD N;have B:kvs.length=xs.length:=mO Q;lia
 mleft;obtain⟨b,J,A,G,E⟩:=qi Q e;mright;have q:=entry_at N i;rw[J]at q;exact⟨_,b.2.1,q,rfl,G,E⟩
theorem Ut{d:Addr}{o:Obj}{es:Array DictEntry}{M:List Expr}{kk:Nat}{L:Pos}(it:Addr)(J:o.data=.dict es ep) :
  Turn P w K (.Tuple M kk L) (abB d o kvs) [it] it (λi h=>∃ok N,IsItemIter h it d i kvs.length ep ok N) where
 mem:=by simp
 obj:=λi h st b U=>by
  have e:b=it:=by simpa using U
  subst e;obtain⟨ok,N,e⟩:=st;exact⟨_,e,λv z=>nomatch z⟩
 keep:=λi h h' st k=>let ⟨ok,N,e⟩:=st;⟨ok,N,k it aP _ e⟩
 item:=by
  intro X n m l hc i pins s σ H E I y st j;subst n m l;obtain⟨hd,g⟩:=j;mleft;obtain⟨hs,T,hx,f,c,Y,hsz,G⟩:=S9 I hd;mright;obtain⟨rfl,rfl⟩:=va J Y;obtain⟨⟨k,v⟩,D⟩:∃p,kvs[i]?=some p:=⟨kvs[i],cu g⟩;mleft;obtain⟨u,q,a,C,hq,rv⟩:=G i k v D;mright;obtain⟨ok,N,r⟩:=st;have B:it<s.heap.objs.size:=bV r;refine Ya r T Y hsz a λh' ho hT hk=>?_;refine⟨_,rfl,wpAny_letOwnedTupleGo_items (s:={ s with heap:=h' }) ho λO ab sb=>?_⟩
  have al:O.get? s.heap.objs.size=some { cls:=.type "tuple",data:=.seq #[u.key,u.val] }:=(sb.2 _ (Aw B)).trans hT;have am:dH X.prog X.w (upd H s.heap.objs.size (.tup [.ref q,v])) O s.heap.objs.size (.tup [.ref q,v]):=
   ⟨by show 2<=sizeLine;decide,[u.key,u.val],.cons C (.cons rv .nil),⟨_,al,rfl,_,rfl⟩⟩
  have I1:Inv X pins σ (upd H s.heap.objs.size (.tup [.ref q,v])) { s with heap:=O }:=
   I.Dk (t':=s.toks) (ch:=[it]) (λb ob U e=>(sb.2 b (by simpa using U)).trans (hk b ob (by simpa using U) e)) y (bD _) am
  refine⟨.ref s.heap.objs.size,_,I1,rfl,⟨_,k,v,q,D,rfl,hq,I.aQ.fresh (bD _),rfl⟩,⟨_,_,ab⟩,λb U=>?_⟩;have e:b=it:=by simpa using U
  rw[e,aj (fZ B)];exact(y it aP).1
 done:=by
  intro X n m l hc i pins s σ H E I y st j;subst n m l;obtain⟨hd,g⟩:=j;mleft;obtain⟨f0,f1,f2,f3,f4,f5⟩:=y it aP;mright;mleft;obtain⟨hs,T,hx,f,c,Y,hsz,G⟩:=S9 I hd;mright;obtain⟨rfl,rfl⟩:=va J Y;obtain⟨ok,N,r⟩:=st;exact W0 (I.ok.hd hc) r T Y hsz g λh' eb=>⟨rfl,I.turned (t':=s.toks) (λb ob U e=>eb b ob U e) f0 f1 f3 f4 f5⟩
 self:=λA i s Q E st h=>let ⟨_,_,e⟩:=st;W.kcp_self e h
def R0(td:TE):TI:=λσ H R=>td σ H λx H1=>∃d o kvs,x=.ref d/\H1 d=some (.cV o (.dT kvs))/\R (abB d o kvs) H1
theorem U9{prog:Program}{w:World}(d:Addr)(hd:(d==sysModules)=false):MeetsIn prog w (Builtin.«dict.items» ⟨[.ref d],[]⟩) (λ_ R s=>s.TypeIs (.ref d) "dict"/\
   R (.ok (.ret (.ref s.heap.objs.size))) { s with heap:=s.heap.push { cls:=.type "dict_items",data:=.fields #[.ref d] } }):=
 .of_wp λA R s ⟨Y,h⟩=>by
  unfold Builtin.«dict.items» Builtin.Dict.noArgs;refine aA (aA (wpAny_notOrdered_dict Y ?_));show wpAny _ _ (pure d) _ _ (s:Shared);refine bf ?_;show wpAny _ _ (Builtin.Dict.showsAll d >>= _) _ _ (s:Shared);unfold Builtin.Dict.showsAll;rw[ae (show ¬(d==sysModules)=true by rw[hd];simp)]
  exact aA (bf (aA (z8 (bf ⟨_,rfl,h⟩))))
theorem Lh{X:Cx}{e:Expr}{U:List Expr}{E:Nat}{Q:PySem.Pos}(B:PE X e td)(O:attributeBase e "items" X.env (eval e X.env)=eval e X.env:=by rfl)(N:(apos.endLine==cpos.line)=true:=by rfl) :
  PI X (.Tuple U E Q) (.Call (.Attribute e "items" apos) [] [] cpos) (R0 td):=by
 intro pins s σ H R I h;refine EB (T:="dict") (id:="dict.items") O rfl N F.plainAttrs_dict N0 F.type_dict_items (aZ (B pins s σ H _ I h) λu Y J=>?_);mleft;obtain⟨x,H1,D,z,d,o,kvs,y,hd,q⟩:=J;mright;subst y;obtain rfl:u=Value.ref d:=z;mleft;obtain⟨v,M,C,n,ep,L,hsz,r⟩:=S9 D hd;mright;have G:Y.TypeIs (.ref d) "dict":=⟨o,M,C.1⟩;refine⟨G,λb q=>?_,?_⟩
 .cases q;exact⟨o,M,C.2.1⟩
 have p:Inv X pins σ H1 { Y with heap:=Y.heap.push { cls:=.type "dict_items",data:=.fields #[.ref d] } }:=D.kept (t':=Y.toks) λb m q=>cA _ q
 have fin:wpAny (model X.prog X.w) X.A (pyIter (.ref Y.heap.objs.size)) (Vm X pins σ (.Tuple U E Q) R) X.xe { Y with heap:=Y.heap.push { cls:=.type "dict_items",data:=.fields #[.ref d] } }:=by
  refine VJ (d:=d) ⟨_,eR _ rfl,rfl,rfl⟩ (cA _ M) L (HD (tk:=Y.toks) p _ (Ut _ L) ⟨.none,.none,?_⟩ q);rw[hsz];exact eR _ rfl
 show wpAny _ _ (callWith cpos (.builtin "dict.items") [.ref d] [] []) _ X.xe Y;exact method_meetsIn N0 F.entry_dict_items rfl (Tw ⟨rfl,G,F.args_dict_items_1 _,_,U9 d v,G,fin⟩)
theorem YE{K:W.Frag}{M:TS}{D:Ends}{H:Hp}{p q:Nat}{d:Addr}(hd:H d=some (.dT kvs))(U:∀od (R:VK),R (.ref d) (upd H d (.cV od (.dT kvs)))->td σ (upd H d (.cV od (.dT kvs))) R)
  (Pv:Obj->Nat->L2.St->Hp->Prop) (I:∀od,Pv od 0 σ (upd H d (.cV od (.dT kvs)))) (lk:∀od i σ Y,Pv od i σ Y->Y d=some (.cV od (.dT kvs))) (grow:∀od i σ Y T o,Y T=none->Pv od i σ Y->Pv od i σ (upd Y T o))
  (G:∀od (i:Nat) k v (b:Addr) σ Y,kvs[i]?=some (k,v)->Y b=some (.tup (k.map kV))->Pv od i σ Y->M ⟨Pv od (i+1),λv Y=>Y d=some (.cV od (.dT kvs))/\D.rt v (upd Y d (.dT kvs)),λQ Y=>Y d=some (.cV od (.dT kvs))/\D.nx Q (upd Y d (.dT kvs)),Pv od (i+1)⟩ ((σ.set p (some (.ref b))).set q (some v)) Y)
  (E:∀od σ Y,Pv od kvs.length σ Y->D.nx σ (upd Y d (.dT kvs))):Ur (wy (R0 td) (Ba K 2 (lu (fi p) (lu (fi q) C6))) M) D σ H:=by
 refine⟨d,_,hd,trivial,λod=>U od _ ⟨d,od,kvs,rfl,af,λi m σ Y=>m=kvs.length - i/\i<=kvs.length/\Pv od i σ Y,⟨_,rfl,dy _,I od⟩,?_⟩⟩;rintro i m σ Y ⟨rfl,u,pv⟩;have l:=lk od i σ Y pv;by_cases O:i<kvs.length
 .refine .inr ⟨⟨l,O⟩,Pv od (i+1),λQ N C=>⟨kvs.length - (i+1),ao,rfl,O,C⟩,λx N y=>?_⟩;mleft;obtain⟨T,k,v,b,B,A,L,J,z⟩:=y;mright;subst A z;exact VS.T2 af (G od i k v b σ _ B (by rw[aj (aO L J)];exact L) (grow od i σ Y T _ J pv))
 have e:i=kvs.length:=by lia
 subst e;exact .inl ⟨⟨l,bD _⟩,l,E od σ Y pv⟩
end
theorem DF{α β:Type}(f:α->β):∀(l:List α) (j:Nat),(l.map f).eraseIdx j=(l.eraseIdx j).map f
 |[],_=>rfl
 |x::l,0=>rfl
 |x::l,j+1=>by
  show f x::(l.map f).eraseIdx j=f x::(l.eraseIdx j).map f;rw[DF f l j]
section
variable{prog:Program}{w:World}{KK:Type}[DecidableEq KK]{knd:HeapKind prog w KK}{A:Around}{E:b7}{s:Shared}
theorem ab7{d a:Addr}{xs:List (KK×Addr×Value)}{k:KK}{Q:Option DictEntry->Shared->Prop}(J:knd.room A)(Y:knd.is s.heap k a)(D:s.heap.DictOfH knd d xs)(sz:xs.length<=sizeLine)
  (C:(∀(j:Nat) (p:Addr×Value),xs[j]?≠some (k,p))->Q none { s with toks:=s.toks+knd.draws k })
  (N:∀(j:Nat) (p:Addr×Value),xs[j]?=some (k,p)->∀h',h'.DictOfH knd d (xs.eraseIdx j)->Heap.SameBut d s.heap h'->Q (some (entryOfKey knd (k,p))) { s with heap:=h',toks:=s.toks+knd.draws k }) :
  wpAny (model prog w) A (Builtin.Dict.takeOut d (.ref a)) Q E s:=by
 mleft;obtain⟨o,I,ep,U,B,hd,O,T,H⟩:=D;mright;have M:I.size<=sizeLine:=by rw[UD O];exact sz
 unfold Builtin.Dict.takeOut;try with_reducible refine wX ?_
 refine aA (knd.pyHash J Y (aA (wpAny_dictFind_heap (s:={ s with toks:=s.toks+knd.draws k }) J Y U hd O T H (λh=>bf (C h)) λj p G=>?_)))
 refine aA (HN (s:={ s with toks:=s.toks+knd.draws k }) U hd ?_)
 rw[entry_at O j,G];refine aA (wpAny_updateDictKeys (hz:=M) (s:={ s with toks:=s.toks+knd.draws k }) U hd (bf (N j p G _ ⟨_,_,ep+1,uO _ U (Obj.isFreed_of_dict (Obj.data_mapDictKeys hd _)),B.mapDictKeys _,Obj.data_mapDictKeys hd _,?_,λx z=>?_,?_⟩ (TQ ..))))
 .obtain⟨l⟩:=I;have L:l=xs.map (entryOfKey knd):=O;rw[L];simp[DF]
 .exact knd.keeps (T x (List.mem_of_mem_eraseIdx z)) U hd (TQ ..)
 rw[<-DF];exact H.sublist (List.eraseIdx_sublist _ _)
end
theorem Z1{H:Hp}{xs:List (List Key×Addr×Value)}(t:KT H kvs xs):kvs.map (·.1)=xs.map (·.1):=by
 induction t with
 |nil=>rfl
 |cons Y t' U=>rw[bM,bM,U,Y.1]
theorem SK{H:Hp}:∀{kvs:List (List Key×V)} {xs:List (List Key×Addr×Value)},KT H kvs xs->(xs.map (·.1)).Nodup->∀(j:Nat) (k:List Key) (p:Addr×Value),xs[j]?=some (k,p)->KT H (gh kvs k) (xs.eraseIdx j)
 |_,_,.nil,_,j,k,p,h=>by simp at h
 |x::kvs,y::xs,.cons r t,U,j,k,p,h=>by
  rw[bM,qD]at U;cases j with
  |zero =>
   cases h;have O:x.1=k:=r.1;have T:gh (x::kvs) k=kvs:=by
    unfold gh;rw[UH (by simp[O])]
    rw[ub];intro z hz;have:z.1∈xs.map (·.1):=by
     have Y:=Z1 t;rw[<-Y];exact bS.mpr ⟨z,hz,rfl⟩
    simp only[dI];intro e;exact U.1 (e▸this)
   rw[T];exact t
  |succ j =>
   have Q:xs[j]?=some (k,p):=h;have N:x.1≠k:=λe=>U.1 (bS.mpr ⟨(k,p),cI Q,(by rw[<-e];exact r.1)⟩)
   have T:gh (x::kvs) k=x::gh kvs k:=by
    unfold gh;rw[NP (by simp[N])]
   rw[T];exact .cons r (SK t U.2 j k p Q)
def U8(td U T:TE):TE:=λσ H Q=>td σ H λx H1=>∃a,x=.ref a/\OK H1 a/\U σ H1 λy O=>T σ O λz Y=>∃kvs k b,Y a=some (.dT kvs)/\y=.ref b/\Y b=some (.tup (k.map kV))/\
 (∀v,eU kvs k=some v->Q v (upd Y a (.dT (gh kvs k))))/\(eU kvs k=none->Q z Y)
theorem acX{X:Cx}{pins:bO}{H:Hp}{s:Shared}{a b:Addr}{k:List Key}{r:Value}{A:Around}{E:b7}{Q:b7}(hu:A.units+1<cLine)(I:Inv X pins σ H s)(e:H a=some (.dT kvs))(eb:H b=some (.tup (k.map kV)))
  (J:∀v g T,eU kvs k=some v->Inv X pins σ (upd H a (.dT (gh kvs k))) T->RelV v g->Q g T) (no:∀T,eU kvs k=none->Inv X pins σ H T->Q r T) :
  wpAny (model X.prog X.w) A (call (.builtin "dict.pop") [.ref a,.ref b,r]) Q E s:=by
 mleft;obtain⟨z,hd,xs,Y,N⟩:=S4 I.aQ e;mright;have sz:xs.length<=sizeLine:=by rw[<-mO Y];exact z
 have G:=zy I.aQ eb;refine Nu PySem.F.slot_dict_pop N.typeIs PySem.F.entry_dict_pop ?_ (PySem.F.args_dict_pop_3 _ _ _);unfold Builtin.«dict.pop» Builtin.Dict.keyAndDefault;refine aA (aA (wpAny_notOrdered_dict N.typeIs ?_));show wpAny _ _ (pure (a,Value.ref b,some r)) _ _ (s:Shared);refine bf ?_;simp only[show(keyPart (Value.ref b)).isSome=false from rfl,oN,gA];mleft;obtain⟨o,D,ep,ho,hc,C,he,ab,f⟩:=id N;mright;refine aA (HN ho C (aA (bf ?_)));have U:∀s1,Inv X pins σ H s1->eU kvs k=none->wpAny (model X.prog X.w) A.in1 (rule "dict.pop.default" >>= λ_=>ret r) (λfin T=>∃v,fin=Fin.done (Flow.ret v)/\Q v T) E s1:=λs1 I1 O=>aA (wpAny_rule (bf ⟨r,rfl,no s1 O I1⟩));by_cases c:D.isEmpty=true
 .simp only[c,dB];have B:xs=[]:=by
   have e1:D.size=xs.length:=UD he;have e2:D.size=0:=by simpa using c
   exact S6.mp ao
  subst B;cases Y;refine aA (wpAny_rule (aA (bf ?_)));simp only[Zt,dB];exact aA (wpAny_missedRemoval_other hd (U _ I rfl))
 simp only[c,oN,gA];refine aA (ab7 (NC hu) G N sz (λy=>?_) λj p M h' u sb=>?_)
 .simp only[Zt,dB];refine aA (wpAny_missedRemoval_other hd (U _ (I.tok _) ?_));have q:=Y.val k;have:atKey xs k=none:=by
   unfold atKey;rw[Option.map_eq_none_iff,YU];intro x B;obtain⟨j,M⟩:=PN B;simp only[dI];intro ek;exact y j x.2 (by rw[M,<-ek])
  rw[this]at q;cases O:eU kvs k with
  |none=>rfl
  |some v=>rw[O]at q;exact q.elim
 simp only[Option.isNone_some,oN,gA];have O:(atKey xs k)=some p:=by
  have:=atKey_of_get f M;exact this
 have q:=Y.val k;rw[O]at q;obtain⟨v,n,m⟩:∃v,eU kvs k=some v/\RelV v p.2:=by
  cases L:eU kvs k with
  |none=>rw[L]at q;exact q.elim
  |some v=>rw[L]at q;exact⟨v,rfl,q⟩
 refine aA (wpAny_letGo (bf ⟨_,rfl,J v _ _ n ?_ m⟩));mleft;obtain⟨d,l,i,hq,L,h3,h4,_,h5⟩:=u;mright;refine u9 I (by rw[e];exact True.intro) sb ⟨d,hq⟩ ⟨bT (XZ kvs k) z,hd,_,(SK Y f j k p M).keeps λc ys ec=>?_,d,l,i,hq,L,h3,h4,h5⟩
 rw[aj (S2 ec e (λz=>nomatch z))];exact ec
theorem Xc{X:Cx}{o e f:Expr}{N M:TE}(J:X.A.units+1<cLine)(G:PE X o td)(E:PE X e N)(D:PE X f M)(m:M2 X o "pop" apos e f cpos):PE X (.Call (.Attribute o "pop" apos) [e,f] [] cpos) (U8 td N M):=by
 intro pins s σ H Q I h;refine EB m.base m.U5 m.line M7 PySem.F.slot_dict_pop PySem.F.type_dict_pop (aZ (G pins s σ H _ I h) λu C Y=>?_);mleft;obtain⟨x,H1,L,B,a,r,d,q⟩:=Y;mright;subst r;obtain rfl:u=Value.ref a:=B;obtain⟨p,n,_⟩:=Jh L d;refine⟨p,n,?_⟩;rw[m.trees];refine Ey rfl (Iz (Af (aZ (E pins C σ H1 _ L q) λl j ⟨y,i,g,c,q2⟩ =>
  Af (aZ (D pins j σ i _ g q2) λfv s3 ⟨z,H3,I3,rz,kvs,k,b,ea,ey,eb,q3,q4⟩=>HF ?_))))
 subst ey;obtain rfl:l=Value.ref b:=c;exact acX J I3 ea eb (λv w' s4 U T O=>⟨v,_,T,O,q3 v U⟩) λs4 U T=>⟨z,H3,T,rz,q4 U⟩
def RO(tk T:TE):TE:=λσ H Q=>∀p,H p=none->tk σ (upd H p (.dT [])) λx H1=>T σ H1 λy Y=>∃U b,x=.ref b/\Y p=some (.dT [])/\Y b=some (.tup (U.map kV))/\Q (.ref p) (upd Y p (.dT [(U,y)]))
theorem Lu{X:Cx}{k v:Expr}{Y:PySem.Pos}{tk J:TE}(hu:X.A.units+1<cLine)(D:PE X k tk)(C:PE X v J):PE X (.Dict [some k] [v] Y) (RO tk J):=by
 intro pins s σ H Q I q;have B:=I.aQ.fresh (bD s.heap.objs.size);have r:=I.laid (a:=s.heap.objs.size) (o:=.dT []) (h':=s.heap.push { cls:=.type "dict",data:=.dict #[] }) (t':=s.toks) (λ_ _ q=>cA _ q) (bD _) (Px s.heap I.big);have len:=pairTrees_length [some k] [v] X.env Y rfl rfl;have p:pairTrees [some k] [v] X.env Y≠[]:=λe=>by rw[e]at len;cases len
 rw[arm_eval_Dict,zip_pairTrees [some k] [v] X.env Y rfl rfl,dictDisplay_pairs _ p (by rw[len];show 1<17;decide)]
 refine aA (AS (aA ?_));unfold subDict;refine aA (wpAny_alloc (aA (wX ?_)));rw[ag (show(pairTrees [some k] [v] X.env Y).length<=15 by rw[len];show 1<=15;decide)]
 refine aA ?_;refine pairTrees_cons_walk (aZ (D pins _ σ _ _ r (q _ B)) λu n ⟨x,H1,m,l,j⟩=>aZ (C pins n σ H1 _ m j) λu2 s2 ⟨y,H2,U,i,ks,b,g,e,T,f⟩=>pairTrees_nil_walk ?_);subst g;obtain rfl:u=Value.ref b:=l;refine wX ?_;rw[List.forIn_cons];mleft;obtain⟨z,hd,xs,O,d⟩:=S4 U.aQ e;mright;cases O;refine aA (aA (aA (wpAny_dictSet_heap (hsz:=dy _) (knd:=tupleKind (cX X.prog X.w)) ?_ (zy U.aQ T) d λh' N c=>bf ?_)))
 .show X.A.units<cLine;lia
 simp only[S1];refine bf (bf (bf (bf ⟨.ref s.heap.objs.size,_,?_,rfl,f⟩)));mleft;obtain⟨G,M,L,E,h2,h3,h4,_,h5⟩:=N;mright;refine u9 U (by rw[e];exact True.intro) c ⟨G,E⟩ ⟨by show 1<=sizeLine;decide,hd,_,.cons ⟨rfl,?_,i⟩ .nil,G,M,L,E,h2,h3,h4,h5⟩
 rw[aj (S2 T e (λz=>nomatch z))];exact T
def YN(td T:TE):TE:=λσ H Q=>td σ H λx H1=>∃a,x=.ref a/\OK H1 a/\T σ H1 λy U=>∃b kvs Y,y=.ref b/\a≠b/\U a=some (.dK kvs)/\U b=some (.dK Y)/\kvs.length+Y.length<=sizeLine/\Q .aX (upd U a (.dK (j6 kvs Y)))
theorem ZT{X:Cx}{o e:Expr}{z:TE}(p:PE X o td)(M:PE X e z)(m:M1 X o "update" apos e cpos):PE X (.Call (.Attribute o "update" apos) [e] [] cpos) (YN td z):=by
 intro pins s σ H Q I h;refine EB m.base m.U5 m.line M7 PySem.F.slot_dict_update PySem.F.type_dict_update (aZ (p pins s σ H _ I h) λu n L=>?_);mleft;obtain⟨x,H1,v,l,a,j,d,i⟩:=L;mright;subst j;obtain rfl:u=Value.ref a:=l;obtain⟨g,f,_⟩:=Jh v d;refine⟨g,f,?_⟩;rw[m.trees];refine Ey rfl (Iz (Af (aZ (M pins n σ H1 _ v i) λc s2 ⟨y,H2,J,ry,b,kvs,Y,ey,G,r,eb,hz,q2⟩=>HF ?_)));subst ey;obtain rfl:c=Value.ref b:=ry;mleft;obtain⟨z1,E,D,U,O⟩:=NI J.aQ r;mright;mleft;obtain⟨z2,C,B,T,A⟩:=NI J.aQ eb;mright;refine Jg PySem.F.slot_dict_update O.typeIs PySem.F.entry_dict_update (PySem.F.args_dict_update_2 _ _) (meets_dict_update (cX X.prog X.w) a b G C) ⟨D,B,O,A,by rw[<-U.length,<-T.length];exact hz,λh' N _ hs=>?_⟩
 have M:∃q,h'.get? a=some q:=let ⟨q,_,_,hq,_⟩:=N;⟨q,hq⟩
 have hl:(j6 kvs Y).length<=sizeLine:=bT (ug Y kvs) hz;exact⟨.aX,_,u9 (t':=s2.toks) J (by rw[r];exact True.intro) hs M (Om hl E (T.merge U) N),rfl,q2⟩
def U1(ok:Addr->Prop)(sp:Addr->Sp)(E:L2.XK)(Y:TE)(t:TA):TE:=λσ H Q=>Y σ H λx H1=>∃f,x=.ref f/\ok f/\t σ H1 λvs U=>sp f vs U Q E
theorem W5{X:Cx}{CX:sO}{k:Nat}{ps:List Str}{ok:Addr->Prop}{sp:Addr->Sp}{E:L2.XK}{x:Str}{p Y:PySem.Pos}{e:Expr}{U:List Expr}{M:TE}{t:TA}
  (F:∀f,ok f->∃T,aM X.prog X.w X.K X.mg X.base CX k f T ps (sp f)/\W.keepIn X.K (.ref f)=true/\Binds X.K T ps []) (hr:fc k X.A) (D:Passes CX X E) (C:PE X (.Name x p) M) (B:PA X (e::U) t)
  (z:starEach (e::U) X.env=(false,eval e X.env)::starEach U X.env:=by rfl) (O:(backTo Y (starEach U X.env)).any (·.1)=false:=by rfl):PE X (.Call (.Name x p) (e::U) [] Y) (U1 ok sp E M t):=by
 intro pins s σ H Q I h;refine IP (aZ (C pins s σ H _ I h) λu v N=>?_);mleft;obtain⟨y,H1,L,o,f,n,aQ,q⟩:=N;mright;subst n;obtain rfl:u=Value.ref f:=o;mleft;obtain⟨T,G,m,l⟩:=F f aQ;mright;refine Ij (h₀:=X.base) L.ok.mod.PU m (aZ (B Y pins v σ H1 _ L q) λus i ⟨vs,g,J,r,j⟩=>⟨J.gT,?_⟩) z O;exact En (dvs:=[]) G hr l .nil D J r (by rw[iN];exact j)
end LX
set_option hygiene false
local macro_rules|`(tactic| mstop)=>`(tactic| try dsimp only[abR,T1,yN,tUn,rU,rEq,rNe,sQ,rI,kF,tC,Xy,Kc,fi,tOr,aaK,abM,tB,YO,Ud,w9,C3,Tt,Nn,Us,tCB,tIf,YI,abC,aca,Wd,sFC,abW,abq,aa6,abo,aaO,tBM,abI,abX,ZI,WS,Tr,Yk,Vt,Jv,Wg,VX,YN,U8,RO,U1,_root_.L2.start,List.map_cons,List.map_nil,List.length_cons,List.length_nil,Nat.reduceSub,Nat.reduceAdd,List.replicate,List.cons_append,List.nil_append,List.getElem?_cons_zero,List.getElem?_cons_succ,List.set_cons_zero,List.set_cons_succ,VH,Ba,lu,C6,Ts,Si,V9,RX,OJ,OT,Su,Oe])
local macro_rules|`(tactic| mexfalso)=>`(tactic| (mstop;try simp (disch:=first|assumption|exact id rfl|fail) only[Yj,kV,Nat.sub_self,Nat.zero_add,List.append_nil,Option.some.injEq,HO.ins.injEq,exists_eq_left',exists_and_left,and_assoc,V.bl.injEq,V.int.injEq,V.ref.injEq,decide_eq_true_eq,true_and,exists_eq_left,↓reduceIte,List.length_map,wipe,List.length_replicate,Bool.not_eq_true',decide_eq_false_iff_not,List.cons.injEq,and_true,Si,V9,RX,OJ,OT,Su,Oe,Kb,↓acb,↓ab0,↓Zi,↓UW,nes,beq_self_eq_true,List.map_cons,List.map_nil,List.length_cons,List.length_nil,Nat.reduceSub,Nat.reduceAdd,List.cons_append,List.nil_append,List.getElem?_cons_zero,List.getElem?_cons_succ,List.set_cons_zero,List.set_cons_succ,List.replicate,VH]))
local macro_rules|`(tactic| cbv)=>`(tactic| (mexfalso;repeat ((first|with_reducible refine ab4 (by assumption) ?_|with_reducible refine ZU fun _ _=>?_);mexfalso)))
set_option hygiene true
namespace VS
open PySem PySem.Spec PyProof.Rows L2 LX
section
def QQ:Sp:=λvs H Q _=>X2 λ(Y m:Nat)=>vs=[.int Y,.int m]/\Q (.int (VM.du Y m)) H
theorem FE(T:Txt K mg t):aM P w K mg base bX 1 t.lX t.yj ["weight","member"] QQ:=by
 refine T.sC.ok Rh (λvs H Q E h=>?_) (λN A Y s H vs Q E hr h=>?_)
 .mleft;obtain⟨a,b,rfl,_⟩:=h;mright;rfl
 mleft;obtain⟨U,m,rfl,k⟩:=h;mright;refine⟨_,ah (bZ (aW fq (pv 1) (cH ay T.zh) (aR _)) (ak (aK (pv 0))) bp)
  (ah (bZ ((qj (aW fq (pv 0) (pv 1) (aR _)) (nU (aW fq (pv 0) (cH ay T.LK) (aR _)))).pt) (ak (aK (pv 1))) bp)
  (ak (aK (ax)))),?_⟩
 unfold VM.du at k;cbv;by_cases O:m=3
 .rw[ag O]at k;rw[ag ao];exact k
 rw[ae O]at k;rw[ae ao];cbv;by_cases M:U=m
 .rw[ag (.inl M)]at k;rw[ag ao];cbv;simpa using k
 rw[ae ao];cbv;by_cases L:U=3
 .rw[ag (.inr L)]at k;rw[ag ao];exact k
 rw[ae ao]at k;rw[ae ao];cbv;exact k
def zj(t:Ad)(H:Hp)(a:Addr)(l:Sw66.Line):Prop:=X4 λQ Y U T=>Y4 (H a=some (.ins t.Line Q (CW (.ref Y) (.ref U) (.ref T)))) (H Y=some (.lst (l.map λs=>V.int s.weight))) (H U=some (.lst (l.map λs=>V.int s.join))) (H T=some (.lst (l.map λs=>V.int (VM.bI s.ends))))
theorem zj.same{H Y:Hp}{a:Addr}{l:Sw66.Line}(h:zj t H a l)(s:aw H Y):zj t Y a l:=by
 mleft;obtain⟨U,T,Q,O,N,M,L,J⟩:=h;mright;exact⟨U,T,Q,O,s _ _ N,s _ _ M,s _ _ L,s _ _ J⟩
def MS(t:Ad):Sp:=λvs H Q _=>X2 λ(a:Addr) (l:Sw66.Line)=>Y4 (vs=[.ref a]) (zj t H a l) (l.length<=1000000) (∀Y,aw H Y->Q (.bl (Sw66.lineOk l)) Y)
def Th(s:Sw66.Syll):Bool:=decide ((s.weight:Int)<1)||decide (3<(s.weight:Int))
def TH(s:Sw66.Syll):Bool:=decide (2<(s.join:Int))
theorem Ro(l:Sw66.Line):((l.map λs=>V.int (s.join:Int)).countP λz=>BC z (.int 2))=(l.filter λs=>s.join==2).length:=by
 rw[Nh,SY];congr 1;refine ni λs _=>?_;show decide ((s.join:Int)=2)=_;by_cases h:s.join=2
 .rw[h];rfl
 rw[jF ao,beq_eq_false_iff_ne.mpr h]
theorem IK{l:Sw66.Line}:Sw66.lineOk l=true↔1<=l.length/\l.length<=24/\(l.map Th).any id=false/\(l.map TH).any id=false/\(l.filter λs=>s.join==2).length<=6/\∃s,l.getLast?=some s/\s.join=0:=by
 unfold Sw66.lineOk Sw66.SYLLS Sw66.MAYS;simp only[gN,dI,jV,M9,List.any_eq_false,Function.comp,id,Th,TH,CA,not_or,Int.not_lt];constructor
 .rintro⟨a,b,c,d,e⟩;refine⟨a,b,λs Y=>⟨by have:=(c s Y).1.1;lia,by have:=(c s Y).1.2;lia⟩,λs Y=>by have:=(c s Y).2;lia,d,?_⟩
  cases h:l.getLast? with
  |none=>rw[h]at e;cases e
  |some s=>rw[h]at e;exact⟨s,rfl,by simpa using e⟩
 rintro⟨a,b,U,T,d,s,h,e⟩;refine⟨a,b,λs Y=>⟨⟨by have:=(U s Y).1;lia,by have:=(U s Y).2;lia⟩,by have:=T s Y;lia⟩,d,?_⟩
 rw[h];simp[e]
theorem MB(T:Txt K mg t):aM P w K mg base bX 1 t.AO t.tI ["line"] (MS t):=by
 refine T.tR.ok iP (λvs H Q E h=>?_) (λb A B s H vs Q E hr h=>?_)
 .mleft;obtain⟨a,l,rfl,_⟩:=h;mright;rfl
 mleft;obtain⟨a,l,rfl,L,hl,k⟩:=h;mright;mleft;obtain⟨dx,wa,u,ea,h1,o,h3,h4⟩:=id L;mright;have O:¬Sw66.lineOk l=true->∀H',aw H H'->Q (.bl false) H':=λn=>by
  rw[Kn]at n;rw[n]at k;exact k
 rw[IK]at O;refine⟨_,ah (aH (i:=1) iP.nd rfl aI (bH dP ay T.dk PySem.boot_len (aa (aF T.eA T.gJ (pv 0)) ai)))
  (ah (bZ ((qj (aW qw (pv 1) (ax) (aR _)) (nU (aW iY (pv 1) (cH ay T.E3) (aR _)))).pt) (ak (aK (i9))) bp)
  (ah (bZ (tu (bH (VQ rfl) ay T.Vk VS.boot_any (aa (iX rfl iP.nd (dc (aF T.eA T.gJ (pv 0))) (b6 (own:=[("weight",2)]) ay) (λ_ _ _ _ _=>(aE (i:=2) iP.nd rfl aI)) (λ_ _ _ _ _=>cW) (λ_ _ _ _ _=>(acd (eM qw (pv 2) (ax) (aR _)) (Ip (eM iY (pv 2) (cH ay T.LK) (aR _)))))) ai))) (ak (aK (i9))) bp)
  (ah (bZ (tu (bH (VQ rfl) ay T.Vk VS.boot_any (aa (iX rfl iP.nd (dc (aF T.eA T.eQ (pv 0))) (b6 (own:=[("join",3)]) ay) (λ_ _ _ _ _=>(aE (i:=3) iP.nd rfl aI)) (λ_ _ _ _ _=>cW) (λ_ _ _ _ _=>(eM iY (pv 3) (cH ay T.xQ) (aR _)))) ai))) (ak (aK (i9))) bp)
  (ak (aK (N9 (eM SU (lI jC PySem.F.slot_list_count PySem.F.type_list_count Xp (aF T.eA T.eQ (pv 0)) (aa (cH ay T.xQ) ai)) (cH ay T.zI) (aR _)) (Ip (eM fq (aS mN (aF T.eA T.eQ (pv 0)) (uZ sW (ax)) (λ_ _=>rfl)) (ax) (aR _))))))))),?_⟩
 cbv;refine⟨_,.inl (.of o),?_⟩;cbv;by_cases m:l.length<1
 .rw[ag ao];exact O ao H (.refl H)
 rw[ae ao];cbv;by_cases j:l.length<=24
 .rw[ae ao];cbv;have hz:l.length<=sizeLine:=bT j aG;refine BV (a:=wa) (H1:=H) (λR r=>by cbv;exact r) (.of o) (iJ (l.map λs=>V.int s.weight) λv=>match v with|.int i=>V.bl (decide (i<1)||decide (3<i))|_=>.aX) rfl (λD i x H' z U p=>?_) (λD H' z p=>?_)
  .obtain⟨sy,_,rfl⟩:∃sy,l[i]?=some sy/\V.int (sy.weight:Int)=x:=by rw[cM,lM]at U;exact U
   cbv;by_cases q:(sy.weight:Int)<1
   .rw[ag q];exact iJ.next p U (by simp[q]) (.refl _) z (by simpa using hz)
   rw[ae q];exact iJ.next p U (by simp[q]) (.refl _) z (by simpa using hz)
  have e:=iJ.done p;rw[cf]at e;refine⟨D,l.map Th,rfl,.of (by rw[e,cf];rfl),?_⟩
  cbv;by_cases N:(l.map Th).any id=true
  .rw[ag N];exact O (λn=>by rw[n.2.2.1]at N;cases N) H' p.1
  rw[ae N];cbv;have y:=p.1 _ _ h1;have I:=p.1 _ _ h3;refine BV (a:=u) (H1:=H') (λR r=>by cbv;exact r) (.of I) (iJ (l.map λs=>V.int s.join) λv=>match v with|.int i=>V.bl (decide (2<i))|_=>.aX) rfl (λg i x C G U p=>?_) (λg C G M=>?_)
  .obtain⟨sy,_,rfl⟩:∃sy,l[i]?=some sy/\V.int (sy.join:Int)=x:=by rw[cM,lM]at U;exact U
   cbv;exact iJ.next p U rfl (.refl _) G (by simpa using hz)
  have e:=iJ.done M;rw[cf]at e;refine⟨g,l.map TH,rfl,.of (by rw[e,cf];rfl),?_⟩
  cbv;by_cases J:(l.map TH).any id=true
  .rw[ag J];exact O (λn=>by rw[n.2.2.2.1]at J;cases J) C (p.1.trans M.1)
  rw[ae J];cbv;have f:=M.1 _ _ y;have Y:=M.1 _ _ I;cbv;refine⟨sN Y,u,_,.int 2,rfl,rfl,.of Y,rfl,(by simp[AH,Ab,lA]),?_⟩
  cbv;rw[Ro];by_cases d:(l.filter λs=>s.join==2).length<=6
  .rw[ag ao];cbv;obtain⟨sy,c⟩:∃sy,l.getLast?=some sy:=by
    cases q:l.getLast? with
    |none=>rw[YQ.mp q]at m;exact absurd (show([]:List Sw66.Syll).length<1 by decide) m
    |some sy=>exact⟨sy,rfl⟩
   refine⟨_,.int sy.join,.of Y,?_,?_⟩
   .obtain⟨l0,e0⟩:=List.getLast?_eq_some_iff.mp c;rw[e0,jK];exact Ow _ _
   cbv;have:Sw66.lineOk l=decide ((sy.join:Int)=0):=by
    rw[lU,IK,dI,c];simp only[Kn]at N J;constructor
    .rintro⟨_,_,_,_,_,x,e1,e2⟩;cases e1;lia
    intro e;exact⟨ao,j,N,J,d,sy,rfl,ao⟩
   rw[this]at k;exact k C (p.1.trans M.1)
  rw[ae ao];exact O (λn=>d n.2.2.2.2.1) C (p.1.trans M.1)
 rw[ag ao];exact O ao H (.refl H)
end
section
variable{dx nums:Addr}{x0 x1 x2:V}{ns:List Int}{H' H2:Hp}
section
theorem dm{H:Hp}{b:Addr}{o:HO}(h:H b=none)(h':H' b=some o):nw H H' b=some o:=by rw[Nk h];exact h'
theorem aq.same{p:Addr}{H H1:Hp}(s:aq p H H1)(Y:aw H1 H2):aq p H H2:=s.trans (.of Y)
theorem nwX{p:Addr}{H H1:Hp}{o:HO}(U:H p=some o)(s:aq p H1 H2):aw (nw H H1) (nw H H2):=kn λb u Y q=>s b u (λz=>by rw[z,U]at Y;cases Y) q
theorem Bt{H H1:Hp}(s:aw H1 H2):aw (nw H H1) (nw H H2):=kn λb u _ q=>s b u q
theorem dv.G7{H:Hp}{p:Addr}{i j:Nat}(R:dv K t H p dx nums ns i):dv K t (upd H p (.ins t.Reader dx (w6 nums (j:Nat)))) p dx nums ns j:=R.on aq.upd af
theorem dv.fr{H H1:Hp}{p:Addr}{i:Nat}(R:dv K t H1 p dx nums ns i)(s:aq p H H1){b:Addr}(h:H1 b=none):H b=none:=s.free (by rw[R.obj];exact Zh _) h
theorem oG{H:Hp}{C x:Addr}{fs:List (Str×V)}(Y:H x=none)(hd:H dx=none)(n:dx≠x):aw H (upd (upd (upd H dx (.own x)) x (.ins C dx [])) x (.ins C dx fs)):=λb o q=>by
 rw[aj (aO q Y),aj (aO q Y),aj (aO q hd)];exact q
theorem VB{H:Hp}{Q:Addr->Hp->Prop}{E:L2.XK}(k:∀x dx H',H x=none->aw H H'->H' x=some (.ins t.Line dx (CW x0 x1 x2))->Q x H'):∀x dx,H x=none->H dx=none->dx≠x->Ee t [V.ref x,x0,x1,x2] (upd (upd H dx (.own x)) x (.ins t.Line dx [])) (λv H2=>v=.aX/\Q x H2) E:=
 λx dx Y hd n=>⟨x,dx,x0,x1,x2,rfl,af,rfl,k x dx _ Y (oG Y hd n) af⟩
theorem Xl{H:Hp}{Q:Addr->Hp->Prop}{E:L2.XK}(k:∀x dx H',H x=none->aw H H'->H' x=some (.ins t.Way dx (M6 x0 x1))->Q x H'):∀x dx,H x=none->H dx=none->dx≠x->FT t [V.ref x,x0,x1] (upd (upd H dx (.own x)) x (.ins t.Way dx [])) (λv H2=>v=.aX/\Q x H2) E:=
 λx dx Y hd n=>⟨x,dx,x0,x1,rfl,af,rfl,k x dx _ Y (oG Y hd n) af⟩
theorem Xd{H:Hp}{Q:Addr->Hp->Prop}{E:L2.XK}(k:∀x dx H',H x=none->aw H H'->H' x=some (.ins t.Cut dx (NZ x0 x1))->Q x H'):∀x dx,H x=none->H dx=none->dx≠x->Fn t [V.ref x,x0,x1] (upd (upd H dx (.own x)) x (.ins t.Cut dx [])) (λv H2=>v=.aX/\Q x H2) E:=
 λx dx Y hd n=>⟨x,dx,x0,x1,rfl,af,rfl,k x dx _ Y (oG Y hd n) af⟩
theorem Jw{H:Hp}{Q:Addr->Hp->Prop}{E:L2.XK}{Y:V}(k:∀x dx H',H x=none->aw H H'->H' x=some (.ins t.gZ dx (yZ x0 x1 x2 Y))->Q x H'):∀x dx,H x=none->H dx=none->dx≠x->tZ t [V.ref x,x0,x1,x2,Y] (upd (upd H dx (.own x)) x (.ins t.gZ dx [])) (λv H2=>v=.aX/\Q x H2) E:=
 λx dx U hd n=>⟨x,dx,x0,x1,x2,Y,rfl,af,rfl,k x dx _ U (oG U hd n) af⟩
theorem Md{H:Hp}{Q:Addr->Hp->Prop}{E:L2.XK}(k:∀x dx H',H x=none->aw H H'->H' x=some (.ins t.Step dx (Jf x0 x1 x2))->Q x H'):∀x dx,H x=none->H dx=none->dx≠x->wK t [V.ref x,x0,x1,x2] (upd (upd H dx (.own x)) x (.ins t.Step dx [])) (λv H2=>v=.aX/\Q x H2) E:=
 λx dx Y hd n=>⟨x,dx,x0,x1,x2,rfl,af,rfl,k x dx _ Y (oG Y hd n) af⟩
theorem JL{H:Hp}{Q:Addr->Hp->Prop}{E:L2.XK}(k:∀x dx H',H x=none->aw H H'->H' x=some (.ins t.gG dx (mX x0 x1 x2))->Q x H'):∀x dx,H x=none->H dx=none->dx≠x->BS t [V.ref x,x0,x1,x2] (upd (upd H dx (.own x)) x (.ins t.gG dx [])) (λv H2=>v=.aX/\Q x H2) E:=
 λx dx Y hd n=>⟨x,dx,x0,x1,x2,rfl,af,rfl,k x dx _ Y (oG Y hd n) af⟩
theorem dv.cast{H:Hp}{p:Addr}{i j:Nat}(R:dv K t H p dx nums ns i)(e:i=j):dv K t H p dx nums ns j:=e▸R
theorem gH{H:Hp}{Q:VK}{E:L2.XK}{p:Addr}{i:Nat}{z:Int}(R:dv K t H p dx nums ns i)(hz:ns[i]?=some z)(k:∀H',aq p H H'->dv K t H' p dx nums ns (i+1)->Q (.int z) H'):rB K t [.ref p] H Q E:=
 ⟨p,dx,nums,ns,i,z,rfl,R,hz,k _ aq.upd R.G7⟩
theorem OL{H:Hp}{Q:VK}{E:L2.XK}{p:Addr}{pre c post:List Int}(R:dv K t H p dx nums ns pre.length)(U:ns=pre++((c.length:Int)::(c++post)))(k:∀q H',H q=none->H' q=some (.lst (c.map V.int))->aq p H H'->dv K t H' p dx nums ns (pre.length+(1+c.length))->Q (.ref q) H'):sS K t [.ref p] H Q E:=by
 refine⟨p,dx,nums,ns,_,pre,c,post,rfl,R,U,rfl,λq Y=>?_⟩;have T:q≠p:=λz=>by rw[z,R.obj]at Y;cases Y
 have s:aq p H (upd (upd H q (.lst (c.map V.int))) p (.ins t.Reader dx (w6 nums ((pre.length+1+c.length:Nat):Int)))):=(aq.of (au Y)).trans aq.upd;refine k q _ Y (by rw[aj T];exact af) s (R.on s ?_)
 rw[af,Bb]
def Reads(K:W.Frag)(t:Ad)(Y:List Int)(R:V->Hp->Prop)(vs:List V)(H:Hp)(Q:VK):Prop:=X6 λ(p dx nums:Addr) (ns:List Int) (pre post:List Int)=>Y4 (vs=[.ref p]) (dv K t H p dx nums ns pre.length) (ns=pre++(Y++post)) (∀v H',aq p H H'->dv K t H' p dx nums ns (pre.length+Y.length)->R v (nw H H')->Q v H')
def pE(t:Ad)(H:Hp)(v:V)(a:Sw66.Alt):Prop:=X3 λx dx r=>Y3 (v=.ref x) (H x=some (.ins t.Way dx (M6 (.int a.cost) (.ref r)))) (H r=some (.lst (a.row.map λn=>V.int (n:Nat))))
theorem pE.same{H:Hp}{v:V}{a:Sw66.Alt}(s:aw H H')(h:pE t H v a):pE t H' v a:=by
 mleft;obtain⟨x,dx,r,e,Y,U⟩:=h;mright;exact⟨x,dx,r,e,s _ _ Y,s _ _ U⟩
def nI(n:Nat):Int:=n
theorem ZV(a:Sw66.Alt):VM.Ae a=(a.cost:Int)::((a.row.map nI).length:Int)::a.row.map nI:=by
 unfold VM.Ae VM.eList;rw[bG];congr 2
 induction a.row with
 |nil=>rfl
 |cons x r Y=>rw[kb,Y];rfl
theorem zA{α:Type}(pre:List α)(x:α)(r:List α):(pre++x::r)[pre.length]?=some x:=by simp
def Rg(K:W.Frag)(t:Ad):Sp:=λvs H Q _=>∃a:Sw66.Alt,Reads K t (VM.Ae a) (λv A=>pE t A v a) vs H Q
theorem Ru(T:Txt K mg t):aM P w K mg base bX 4 t.Gx t.xV ["reader"] (Rg K t):=by
 refine T.xY.ok Fy (λvs H Q E h=>?_) (λI A Y s H vs Q E hr h=>?_)
 .mleft;obtain⟨a,p,dx,nums,ns,pre,post,rfl,_⟩:=h;mright;rfl
 mleft;obtain⟨a,p,dx,nums,ns,pre,post,rfl,R,U,k⟩:=h;mright;rw[ZV]at U k;refine⟨_,ah (aH (i:=1) Fy.nd rfl aI (b5 (pv 0) T.bj T.bA (bB T) aN (bz T) .nil aC))
  (ak (aK (d7 T.aaL (RA T) aN ay T.aaW (QY T) .nil aC (aa (pv 1) (aa (b5 (pv 0) T.bj T.l6 (l8 T) aN (lT T) .nil aC) ai))))),?_⟩
 cbv;refine⟨_,_,R.obj,rfl,gH R (by rw[U];exact zA _ _ _) λH1 O N=>?_⟩
 cbv;refine⟨_,_,N.obj,rfl,OL (pre:=pre++[(a.cost:Int)]) (c:=a.row.map nI) (post:=post) (by simpa using N) (by rw[U];simp) λq H2 G D J R2=>Xl λx M C B L z=>?_⟩
 refine k _ C ((O.trans J).same L) ?_ ⟨x,M,q,rfl,dm (R2.fr (O.trans J) B) z,dm (N.fr O G) ?_⟩
 .refine(R2.same L).cast ?_;simp;lia
 rw[L _ _ D,cf];rfl
def lL(H:Hp)(v:V)(s:Nat×Nat):Prop:=∃x,v=.ref x/\H x=some (.tup [.int s.1,.int s.2])
theorem lL.same{H:Hp}{v:V}{a:Nat×Nat}(s:aw H H')(h:lL H v a):lL H' v a:=by
 obtain⟨x,e,Y⟩:=h;exact⟨x,e,s _ _ Y⟩
def P6(K:W.Frag)(t:Ad):Sp:=λvs H Q _=>∃a:Nat×Nat,Reads K t (VM.HS a) (λv A=>lL A v a) vs H Q
theorem OF(T:Txt K mg t):aM P w K mg base bX 3 t.DS t.vL ["reader"] (P6 K t):=by
 refine T.wo.ok Cn (λvs H Q E h=>?_) (λJ A Y s H vs Q E hr h=>?_)
 .mleft;obtain⟨a,p,dx,nums,ns,pre,post,rfl,_⟩:=h;mright;rfl
 mleft;obtain⟨a,p,dx,nums,ns,pre,post,rfl,R,U,k⟩:=h;mright;unfold VM.HS at U k;refine⟨_,ah (aH (i:=1) Cn.nd rfl aI (b5 (pv 0) T.bj T.bA (bB T) aN (bz T) .nil aC))
  (ak (aK (jL (aa (pv 1) (aa (b5 (pv 0) T.bj T.bA (bB T) aN (bz T) .nil aC) ai))))),?_⟩
 cbv;refine⟨_,_,R.obj,rfl,gH R (by rw[U];exact zA _ _ _) λH1 N M=>?_⟩
 cbv;refine⟨_,_,M.obj,rfl,gH M (z:=(a.2:Int)) (by rw[U];simp) λH2 L R2=>?_⟩
 cbv;refine⟨aG,λq O=>k _ _ ((N.trans L).same (au O)) (R2.same (au O)) ⟨q,rfl,dm (R2.fr (N.trans L) O) af⟩⟩
end
end
section
def Zp{A:Type}(R:V->A->Prop)(ys:List V)(xs:List A):Prop:=ys.length=xs.length/\∀(j:Nat) (y:V) (a:A),ys[j]?=some y->xs[j]?=some a->R y a
theorem Zp.nil{A:Type}{R:V->A->Prop}:Zp R [] []:=⟨rfl,λj y a h _=>by simp at h⟩
theorem Zp.snoc{A:Type}{R:V->A->Prop}{ys:List V}{xs:List A}{y:V}{a:A}(z:Zp R ys xs)(h:R y a):Zp R (ys++[y]) (xs++[a]):=by
 refine⟨by simp[z.1],λj u b Y U=>?_⟩
 by_cases c:j<ys.length
 .rw[uq c]at Y;rw[uq (by rw[<-z.1];exact c)]at U
  exact z.2 j u b Y U
 rw[oC ao]at Y;rw[oC (by rw[<-z.1];lia),<-z.1]at U
 have e:j - ys.length=0:=by
  have:=(dE.mp Y).1;simp at this;exact this
 rw[e]at Y U;cases Y;cases U;exact h
theorem Zp.imp{A:Type}{R S:V->A->Prop}{ys:List V}{xs:List A}(z:Zp R ys xs)(h:∀y a,R y a->S y a):Zp S ys xs:=⟨z.1,λj y a Y U=>h y a (z.2 j y a Y U)⟩
theorem Zp.get{A:Type}{R:V->A->Prop}{ys:List V}{xs:List A}(z:Zp R ys xs){i:Nat}{y:V}(h:ys[i]?=some y):∃a,xs[i]?=some a/\R y a:=by
 have lt:=(dE.mp h).1;rw[z.1]at lt;exact⟨xs[i],cu lt,z.2 i y _ h (cu lt)⟩
theorem Zp.get'{A:Type}{R:V->A->Prop}{ys:List V}{xs:List A}(z:Zp R ys xs){i:Nat}{a:A}(h:xs[i]?=some a):∃y,ys[i]?=some y/\R y a:=by
 have lt:=(dE.mp h).1;rw[<-z.1]at lt;exact⟨ys[i],cu lt,z.2 i _ a (cu lt) h⟩
def aV{A:Type}(R:Hp->V->A->Prop)(H:Hp)(v:V)(xs:List A):Prop:=X2 λx ys=>Y3 (v=.ref x) (H x=some (.lst ys)) (Zp (R H) ys xs)
theorem aV.same{A:Type}{R:Hp->V->A->Prop}(mono:∀H Y y a,aw H Y->R H y a->R Y y a){H Y:Hp}{v:V}{xs:List A}(s:aw H Y)(h:aV R H v xs):aV R Y v xs:=by
 mleft;obtain⟨x,ys,e,U,z⟩:=h;mright;exact⟨x,ys,e,s _ _ U,z.imp λy a=>mono _ _ y a s⟩
theorem bo{α:Type}{xs:List α}{i:Nat}{x:α}(h:xs[i]?=some x):xs.take (i+1)=xs.take i++[x]:=by
 have lt:=(dE.mp h).1;rw[Ke lt];rw[cu lt]at h;rw[cp h]
theorem P8{α:Type}{xs:List α}{i:Nat}{x:α}(h:xs[i]?=some x):xs=xs.take i++x::xs.drop (i+1):=by
 have lt:=(dE.mp h).1;rw[cu lt]at h;rw[<-cp h,List.getElem_cons_drop,Td]
theorem vS{A:Type}{Y:A->List Int}{R:Hp->V->A->Prop}(mono:∀H H' y a,aw H H'->R H y a->R H' y a){xs:List A}(hl:xs.length<=60){ta:TA}{te:TE}{n:Nat}{σ:L2.St}{H H1:Hp}{Q:VK}{p C U:Addr}{L pre post:List Int}
  (B:aq p H H1) (J:dv K t H1 p C U L (pre.length+1)) (hn:L=pre++(VM.eList Y xs++post))
  (l:∀Rk:List V->Hp->Prop,Rk [.int (xs.length:Nat)] H1->ta σ H Rk)
  (g:∀(j:Nat) x H' T I,xs[j]?=some x->aq p H H'->dv K t H' p C U L T.length->L=T++(Y x++I)->∀Qq:VK,(∀v N,aq p H' N->dv K t N p C U L (T.length+(Y x).length)->R (nw H' N) v x->Qq v N)->te ((wipe σ [n]).set n (some (.int j))) H' Qq)
  (hd:∀v H',aq p H H'->dv K t H' p C U L (pre.length+(VM.eList Y xs).length)->aV R (nw H H') v xs->Q v H'):vV (M8 ta) (fi n) Ts te [n] σ H Q:=by
 refine l _ ⟨(xs.length:Nat),rfl,ao,ao,λD G=>?_⟩;have f:D≠p:=λz=>by rw[z,J.obj]at G;cases G
 have sD:aw H1 (upd H1 D (.lst [])):=au G;refine Pf (λi H'=>aq p H1 H'/\dv K t H' p C U L (pre.length+1+((xs.take i).flatMap Y).length)/\∃ys,H' D=some (.lst ys)/\Zp (R (nw (upd H1 D (.lst [])) H')) ys (xs.take i)) ⟨.of sD,(J.same sD).cast aP,[],af,by simpa using Zp.nil⟩ (λi H' hi d=>?_) (λH' d=>?_)
 .mleft;obtain⟨u,s,ys,M,z⟩:=d;mright;have ab:i<xs.length:=by simpa using hi
  have m:xs[i]?=some xs[i]:=cu ab;have sp:=P8 m;refine⟨by simp[wipe],?_⟩
  have r:aq p H H':=B.trans u;rw[show(0:Int)+(i:Int)=i by lia]
  refine g i xs[i] H' (pre++((xs.length:Int)::(xs.take i).flatMap Y)) ((xs.drop (i+1)).flatMap Y++post) m r (s.cast (by simp;lia)) ?_ _ λv H4 s4 R4 hv=>?_
  .rw[hn];unfold VM.eList
   conv=>lhs;rw[sp]
   rw[CG,kb,<-sp];simp
  have h4:H4 D=some (.lst ys):=s4 _ _ f M;refine⟨ys,h4,?_,?_⟩
  .rw[z.1,iA];exact d8 (Ng _ _) (d8 hl aG)
  have s5:aq p H1 (upd H4 D (.lst (ys++[v]))):=λb o O q=>by
   rw[aj (aO q G)];exact s4 b o O (u b o O q)
  refine⟨s5,(J.on s5 (j:=pre.length+1+((xs.take (i+1)).flatMap Y).length) ?_),ys++[v],af,?_⟩
  .rw[aj (bq f),R4.obj,bo m,CG];congr 4;simp;lia
  rw[bo m,Jy af];have hp:(upd H1 D (.lst [])) p=some _:=(aj (bq f)).trans J.obj;refine(z.imp λy a h=>mono _ _ y a (nwX hp s4) h).snoc (mono _ _ _ _ (fD λb E=>?_) hv);have O:b≠D:=λe=>by rw[e,M]at E;cases E
  rw[aj O];exact s.fr u E
 mleft;obtain⟨u,s,ys,M,z⟩:=d;mright;have e:xs.take ((xs.length:Int)).toNat=xs:=by simp
 rw[e]at z s;refine hd _ H' (B.trans u) (s.cast (by unfold VM.eList;simp;lia)) ⟨D,ys,rfl,dm (J.fr B G) M,z.imp λy a h=>mono _ _ y a (fD λb E=>?_) h⟩
 have O:b≠D\/b=D:=by by_cases c:b=D<;>simp[c]
 rcases O with O|O
 .rw[aj O]at E;exact J.fr B E
 rw[O];exact J.fr B G
end
section
variable{H':Hp}
section
theorem rX{A:Type}{Y:A->List Int}{xs:List A}(pre post:List Int):(pre++(VM.eList Y xs++post))[pre.length]?=some (xs.length:Int):=by unfold VM.eList;exact zA _ _ _
theorem pE.mn:∀H H' y a,aw H H'->pE t H y a->pE t H' y a:=λ_ _ _ _ s h=>h.same s
theorem lL.mn:∀H H' y a,aw H H'->lL H y a->lL H' y a:=λ_ _ _ _ s h=>h.same s
abbrev iS(t:Ad):Hp->V->List Sw66.Alt->Prop:=aV (pE t)
theorem iS.same{H:Hp}{v:V}{a:List Sw66.Alt}(s:aw H H')(h:iS t H v a):iS t H' v a:=aV.same pE.mn s h
def Mz(K:W.Frag)(t:Ad):Sp:=λvs H Q _=>∃a:List Sw66.Alt,a.length<=60/\Reads K t (VM.eList VM.Ae a) (λv A=>iS t A v a) vs H Q
theorem MA(T:Txt K mg t):aM P w K mg base bX 6 t.Bh t.uk ["reader"] (Mz K t):=by
 refine T.tU.ok tT (λvs H Q E h=>?_) (λB A N s H vs Q E hr h=>?_)
 .mleft;obtain⟨a,G,p,M,Y,L,pre,post,rfl,_⟩:=h;mright;rfl
 mleft;obtain⟨a,G,p,M,Y,L,pre,post,rfl,R,D,k⟩:=h;mright;refine⟨_,ak (aK (iX rfl tT.nd (eL ay T.dG (aa (b5 (pv 0) T.bj T.bA (bB T) aN (bz T) .nil aC) ai)) (b6 (own:=[("way",1)]) ay) (λ_ _ _ _ _=>(aE (i:=1) tT.nd rfl aI)) (λ_ _ _ _ _=>cW) (λ_ _ _ _ _=>(aB (Ru T) aN ay T.Rn T.xY.kp (Rq T) .nil aC (aa (pv 0) ai))))),?_⟩;cbv;refine vS pE.mn G (aq.upd (H:=H)) R.G7 D (λu r=>?_) (λj x H' O U q C J I o z=>?_) (λv H' C J y=>k v H' C J y)
 .cbv;exact⟨_,_,R.obj,rfl,p,M,Y,L,_,_,rfl,R,(by rw[D];exact rX _ _),r⟩
 cbv;exact⟨x,p,M,Y,L,O,U,rfl,J,I,z⟩
def qz(t:Ad)(H:Hp)(v:V)(c:Sw66.Cut):Prop:=X3 λx Y r=>Y3 (v=.ref x) (H x=some (.ins t.Cut Y (NZ (.bl c.must) r))) (aV lL H r c.spots)
theorem qz.same{H:Hp}{v:V}{a:Sw66.Cut}(s:aw H H')(h:qz t H v a):qz t H' v a:=by
 mleft;obtain⟨x,Y,r,e,U,T⟩:=h;mright;exact⟨x,Y,r,e,s _ _ U,aV.same lL.mn s T⟩
def QP(K:W.Frag)(t:Ad):Sp:=λvs H Q _=>∃a:Sw66.Cut,a.spots.length<=60/\Reads K t (VM.Kh a) (λv A=>qz t A v a) vs H Q
theorem TZ(b:Bool):decide (VM.bI b=1)=b:=by cases b<;>rfl
theorem QV(T:Txt K mg t):aM P w K mg base bX 5 t.Gs t.yr ["reader"] (QP K t):=by
 refine T.yy.ok sG (λvs H Q E h=>?_) (λm A I s H vs Q E hr h=>?_)
 .mleft;obtain⟨a,q,p,J,Y,O,pre,post,rfl,_⟩:=h;mright;rfl
 mleft;obtain⟨a,q,p,J,Y,O,pre,post,rfl,R,G,k⟩:=h;mright;unfold VM.Kh at G k;refine⟨_,ah (aH (i:=1) sG.nd rfl aI (eM fq (b5 (pv 0) T.bj T.bA (bB T) aN (bz T) .nil aC) (ax) (aR _)))
  (ak (aK (d7 T.aaP (Rr T) aN ay T.aaM (QW T) .nil aC (aa (pv 1) (aa (iX rfl sG.nd (eL ay T.dG (aa (b5 (pv 0) T.bj T.bA (bB T) aN (bz T) .nil aC) ai)) (b6 (own:=[("spot",2)]) ay) (λ_ _ _ _ _=>(aE (i:=2) sG.nd rfl aI)) (λ_ _ _ _ _=>cW) (λ_ _ _ _ _=>(aB (OF T) aN ay T.QG T.wo.kp (Qi T) .nil aC (aa (pv 0) ai)))) ai))))),?_⟩
 cbv;refine⟨_,_,R.obj,rfl,gH R (z:=VM.bI a.must) (by rw[G];exact zA _ _ _) λH1 D C=>?_⟩
 cbv;have N:O=(pre++[VM.bI a.must])++(VM.eList VM.HS a.spots++post):=by rw[G];simp
 have M:dv K t H1 p J Y O (pre++[VM.bI a.must]).length:=C.cast aP;refine vS lL.mn q (aq.upd (H:=H1)) M.G7 N (λRk r=>?_) (λj x H' L U o sx l B Qq g=>?_) (λv H2 n R2 f=>?_)
 .cbv;exact⟨_,_,C.obj,rfl,p,J,Y,O,_,_,rfl,M,(by rw[N];exact rX _ _),r⟩
 .cbv;exact⟨x,p,J,Y,O,L,U,rfl,l,B,g⟩
 refine Xd λx y e o u d=>?_;refine k _ e ((D.trans n).same u) ((R2.same u).cast (by simp;lia)) ⟨x,y,v,rfl,dm (R2.fr (D.trans n) o) ?_,?_⟩
 .rw[d,TZ]
 refine aV.same lL.mn ?_ f;exact aw.trans (fD λb c=>C.fr D c) (Bt u)
def Bf(t:Ad)(H:Hp)(v:V)(l:Sw66.Line):Prop:=∃a,v=.ref a/\zj t H a l
theorem Bf.same{H:Hp}{v:V}{a:Sw66.Line}(s:aw H H')(h:Bf t H v a):Bf t H' v a:=by
 obtain⟨x,e,h⟩:=h;exact⟨x,e,h.same s⟩
def Pc(K:W.Frag)(t:Ad):Sp:=λvs H Q E=>X7 λ(l:Sw66.Line) (p T Y:Addr) (U pre post:List Int)=>Y6 (vs=[.ref p]) (l.length<=60) (dv K t H p T Y U pre.length) (U=pre++(VM.jH l++post)) (Sw66.lineOk l=false->Refs K t E (-1) (aq p H)) (Sw66.lineOk l=true->∀v H',aq p H H'->dv K t H' p T Y U (pre.length+(VM.jH l).length)->Bf t (nw H H') v l->Q v H')
theorem WR(l:Sw66.Line):(VM.jH l).length=1+3*l.length:=by
 unfold VM.jH VM.eList;rw[cT,ZL];have:l.map (λa=>(VM.si a).length)=List.replicate l.length 3:=by
  rw[Zc];exact⟨by simp,λb Y=>by obtain⟨s,_,rfl⟩:=bS.mp Y;rfl⟩
 rw[this,Zd];lia
theorem Refs.imp{E:L2.XK}{n:Int}{S S':Hp->Prop}(h:Refs K t E n S)(i:∀H,S' H->S H):Refs K t E n S':=λC Y H' x q s=>h C Y H' x q (i H' s)
def xB(a:Addr)(H H':Hp):Prop:=∀b,b≠a->H' b=H b
theorem iW{H:Hp}{a:Addr}{xs:List V}{y:V}{Q:VK}(h:H a=some (.lst xs))(hz:xs.length<sizeLine)(k:∀H',xB a H H'->H' a=some (.lst (xs++[y]))->Q .aX H'):Kx (.ref a) [y] H Q:=
 ⟨a,xs,y,rfl,rfl,h,hz,k _ (λb n=>aj n) af⟩
theorem aq.but{p a:Addr}{H H1 H2:Hp}(s:aq p H H1)(b:xB a H1 H2)(h:H a=none):aq p H H2:=λc o n q=>by
 rw[b c (aO q h)];exact s c o n q
theorem Zv.but{a:Addr}{H H1 H2:Hp}(s:aw H H1)(b:xB a H1 H2)(h:H a=none):aw H H2:=λc o q=>by
 rw[b c (aO q h)];exact s c o q
theorem jZ(T:Txt K mg t)(TX:fM K t):aM P w K mg base (jB P w) 4 t.Dy t.vM ["reader"] (Pc K t):=by
 refine m8 T.f6 wu (λvs H Q E h=>?_) (λa0 A am s H vs Q E hr h=>?_)
 .mleft;obtain⟨l,p,dx,M,m,pre,post,rfl,_⟩:=h;mright;rfl
 mleft;obtain⟨l,p,dx,M,m,pre,post,rfl,hl,R,hn,kE,k⟩:=h;mright;refine⟨_,ah (aH (i:=1) wu.nd rfl aI (d7 T.aaG (Pl T) aN ay T.ZY (Pq T) .nil aC (aa (dt ai) (aa (dt ai) (aa (dt ai) ai)))))
  (ah (WB (cz cO rfl (eL ay T.dG (aa (b5 (pv 0) T.bj T.bA (bB T) aN (bz T) .nil aC) ai)) (aE (i:=2) wu.nd rfl aI) (ah (b8 (lI jC oj oh fJ (aF T.eA T.gJ (pv 1)) (aa (b5 (pv 0) T.bj T.bA (bB T) aN (bz T) .nil aC) ai)))
  (ah (b8 (lI jC oj oh fJ (aF T.eA T.eQ (pv 1)) (aa (b5 (pv 0) T.bj T.bA (bB T) aN (bz T) .nil aC) ai)))
  (ak (b8 (lI jC oj oh fJ (aF T.eA T.pT (pv 1)) (aa (b5 (pv 0) T.bj T.bA (bB T) aN (bz T) .nil aC) ai))))))))
  (ah (bZ (yU (tu (aB (MB T) aN ay T.MX T.tR.kp (Mq T) .nil aC (aa (pv 1) ai)))) (ak (jx rfl fU TX.Ii TX.in1 TX.Zr (jG T TX) aN ay T.pz (jD T))) bp)
  (ak (aK (pv 1))))),?_⟩
 cbv;refine⟨aG,λwa Y=>⟨aG,λja O=>⟨aG,λea U=>VB λx j H1 hx s1 g=>?_⟩⟩⟩;cbv;have s0:aw H H1:=(((au Y).trans (au O)).trans (au U)).trans s1;have y:wa≠ja:=λe=>by rw[<-e,af]at O;cases O
 have d:ja≠ea:=λe=>by rw[<-e,af]at U;cases U
 have ab:wa≠ea:=λe=>by rw[<-e,aj y,af]at U;cases U
 have b1:H1 wa=some (.lst []):=s1 _ _ (by rw[aj ab,aj y,af])
 have b2:H1 ja=some (.lst []):=s1 _ _ (by rw[aj d,af])
 have b3:H1 ea=some (.lst []):=s1 _ _ af;have fj:H ja=none:=(au Y).free O;have fe:H ea=none:=((au Y).trans (au O)).free U;have fx:H x=none:=(((au Y).trans (au O)).trans (au U)).free hx;have J:wa≠p:=λe=>by rw[e,R.obj]at Y;cases Y
 have I:ja≠p:=λe=>by rw[e,R.obj]at fj;cases fj
 have G:ea≠p:=λe=>by rw[e,R.obj]at fe;cases fe
 have u:x≠p:=λe=>by rw[e,R.obj]at fx;cases fx
 have an:x≠wa:=λe=>by rw[e,b1]at g;cases g
 have ap:x≠ja:=λe=>by rw[e,b2]at g;cases g
 have ar:x≠ea:=λe=>by rw[e,b3]at g;cases g
 have R1:=R.same s0;have av:m=pre++(VM.eList VM.si l++post):=hn;refine JR (n:=(l.length:Nat)) (λRk r=>?_) ao ao (λi σ H'=>(∃v,σ=[some (.ref p),some (.ref x),v])/\aq p H H'/\dv K t H' p dx M m (pre.length+1+3*i)/\H' x=some (.ins t.Line j (CW (.ref wa) (.ref ja) (.ref ea)))/\
  H' wa=some (.lst ((l.take i).map λs=>V.int s.weight))/\H' ja=some (.lst ((l.take i).map λs=>V.int s.join))/\H' ea=some (.lst ((l.take i).map λs=>V.int (VM.bI s.ends)))) ⟨⟨_,rfl⟩,(aq.of s0).trans aq.upd,R1.G7,?_,?_,?_,?_⟩ (λi σ H' hi p'=>?_) (λσ H' p'=>?_)
 .cbv;exact⟨_,_,R1.obj,rfl,p,dx,M,m,_,_,rfl,R1,(by rw[hn];exact rX _ _),r⟩
 .rw[aj u];exact g
 .rw[aj J];exact b1
 .rw[aj I];exact b2
 .rw[aj G];exact b3
 .mleft;obtain⟨⟨v,rfl⟩,sx,R2,g1,g2,g3,g4⟩:=p';mright;have aL:i<l.length:=by simpa using hi
  have hs:l[i]?=some l[i]:=cu aL;have sp:=P8 hs;have al:m=(pre++((l.length:Int)::(l.take i).flatMap VM.si))++((l[i].weight:Int)::(l[i].join:Int)::VM.bI l[i].ends::((l.drop (i+1)).flatMap VM.si++post)):=by
   rw[av];unfold VM.eList
   conv=>lhs;rw[sp]
   rw[CG,kb,<-sp];simp[VM.si]
  have e3:((l.take i).flatMap VM.si).length=3*i:=by
   rw[ZL];have:(l.take i).map (λa=>(VM.si a).length)=List.replicate i 3:=by
    rw[Zc];exact⟨by simp;lia,λb hb=>by obtain⟨s,_,rfl⟩:=bS.mp hb;rfl⟩
   rw[this,Zd];lia
  have el:(pre++((l.length:Int)::(l.take i).flatMap VM.si)).length=pre.length+1+3*i:=by simp[e3];lia
  have z1:m[pre.length+1+3*i]?=some (l[i].weight:Int):=by rw[al,<-el];exact zA _ _ _
  have z2:m[pre.length+1+3*i+1]?=some (l[i].join:Int):=by rw[al,<-el,oC ao];simp
  have z3:m[pre.length+1+3*i+1+1]?=some (VM.bI l[i].ends):=by rw[al,<-el,oC ao];simp[show ∀n:Nat,n+1+1 - n=2 by lia]
  have lz:∀{f:Sw66.Syll->V},((l.take i).map f).length<sizeLine:=by
   intro f;rw[bG,iA];exact d8 (Ng _ _) (d8 hl aG)
  cbv;refine⟨sN g2,_,_,R2.obj,rfl,gH R2 z1 λH3 s3 R3=>?_⟩;have q:=s3 _ _ u g1;have o:=s3 _ _ J g2;have z:=s3 _ _ I g3;have N:=s3 _ _ G g4;refine iW o lz λH4 D o=>?_;replace q:=(D _ an).trans q;replace z:=(D _ (bq y)).trans z;replace N:=(D _ (bq ab)).trans N;have u1:aq p H H4:=(sx.trans s3).but D Y;have R4:=R.on u1 ((D _ (bq J)).trans R3.obj);clear g1 g2 g3 g4 R2 R3;cbv;refine⟨sN z,_,_,R4.obj,rfl,gH R4 z2 λH5 s5 R5=>?_⟩;replace q:=s5 _ _ u q;replace o:=s5 _ _ J o;replace z:=s5 _ _ I z;replace N:=s5 _ _ G N;refine iW z lz λH6 C z=>?_;replace q:=(C _ ap).trans q;replace o:=(C _ y).trans o;replace N:=(C _ (bq d)).trans N;have u2:aq p H H6:=(u1.trans s5).but C fj;have R6:=R.on u2 ((C _ (bq I)).trans R5.obj);cbv;refine⟨sN N,_,_,R6.obj,rfl,gH R6 z3 λH7 s7 R7=>?_⟩;replace q:=s7 _ _ u q;replace o:=s7 _ _ J o;replace z:=s7 _ _ I z;replace N:=s7 _ _ G N;refine iW N lz λH8 B N=>?_;have u3:aq p H H8:=(u2.trans s7).but B fe;have R8:=R.on u3 ((B _ (bq G)).trans R7.obj);rw[bo hs];simp only[jK,bM,qC];exact⟨⟨_,rfl⟩,u3,R8.cast ao,(B _ ar).trans q,(B _ ab).trans o,(B _ d).trans z,N⟩
 mleft;obtain⟨⟨v,rfl⟩,sx,R2,g1,g2,g3,g4⟩:=p';mright;have e:l.take ((l.length:Int)).toNat=l:=by simp
 rw[e]at g2 g3 g4;have L:zj t H' x l:=⟨j,wa,ja,ea,g1,g2,g3,g4⟩;cbv;refine⟨x,l,rfl,L,ao,λH2 s2=>?_⟩;cbv;cases c:Sw66.lineOk l with
 |false =>
  rw[ag (by first|rfl|simp)]
  cbv;refine gP ⟨TX.Ii,TX.VT⟩ ((kE c).imp λH3 s3=>(sx.same s2).same s3)
 |true =>
  rw[ae aP];cbv;refine k c _ H2 (sx.same s2) ((R2.same s2).cast ?_) ⟨x,rfl,j,wa,ja,ea,dm fx (s2 _ _ g1),dm Y (s2 _ _ g2),dm fj (s2 _ _ g3),dm fe (s2 _ _ g4)⟩;rw[WR];simp;lia
def lp(t:Ad)(H:Hp)(v:V)(l:Sw66.Line):Prop:=Bf t H v l/\Sw66.lineOk l=true
theorem lp.mn:∀H H' y a,aw H H'->lp t H y a->lp t H' y a:=λ_ _ _ _ s h=>⟨h.1.same s,h.2⟩
def MH(K:W.Frag)(t:Ad):Sp:=λvs H Q E=>X7 λ(Y:List Sw66.Line) (p O U:Addr) (T pre post:List Int)=>Y7 (vs=[.ref p]) (Y.length<=60) (∀l∈Y,l.length<=60) (dv K t H p O U T pre.length) (T=pre++(VM.eList VM.jH Y++post)) ((decide (Y.length<=20)&&Y.all Sw66.lineOk)=false->Refs K t E (-1) (aq p H)) ((decide (Y.length<=20)&&Y.all Sw66.lineOk)=true->∀v H',aq p H H'->aV (lp t) (nw H H') v Y->Q v H')
theorem Zp.all{A:Type}{R:V->A->Prop}{ys:List V}{xs:List A}{f:A->Bool}(z:Zp R ys xs)(h:∀y a,R y a->f a=true):xs.all f=true:=by
 rw[jV];intro x Y;obtain⟨i,U⟩:=PN Y;obtain⟨y,_,r⟩:=z.get' U;exact h y x r
theorem B4(T:Txt K mg t)(U:fM K t):aM P w K mg base (jB P w) 6 t.AE t.tW ["reader"] (MH K t):=by
 refine m8 T.n6 nZ (λvs H Q E h=>?_) (λab A I s H vs Q E hr h=>?_)
 .mleft;obtain⟨l,p,G,Y,D,pre,post,rfl,_⟩:=h;mright;rfl
 mleft;obtain⟨g,p,G,Y,D,pre,post,rfl,hl,C,R,f,d,k⟩:=h;mright;refine⟨_,ah (aH (i:=1) nZ.nd rfl aI (b5 (pv 0) T.bj T.bA (bB T) aN (bz T) .nil aC))
  (ah (bZ (aW iY (pv 1) (cH ay T.Mr) (aR _)) (ak (jx rfl fU U.Ii U.in1 U.Zr (jG T U) aN ay T.pz (jD T))) bp)
  (ak (aK (abE fU rfl rfl rfl nZ.nd (eL ay T.dG (aa (pv 1) ai)) (b6 (own:=[("line",2)]) ay) (λ_ _ _ _ _=>(aE (i:=2) nZ.nd rfl aI)) (λ_ _ _ _ _=>cW) (λ_ _ _ _ _ _ L=>(aB (jZ T U) aN ay T.jS T.f6.kp (j7 T) .nil L.passes (aa (pv 0) ai))))))),?_⟩
 cbv;refine⟨_,_,R.obj,rfl,p,G,Y,D,_,_,rfl,R,(by rw[f];exact rX _ _),?_⟩
 cbv;by_cases c:g.length<=20
 .rw[ae ao];cbv;refine vS (R:=lp t) lp.mn hl (aq.refl p _) R.G7 f (λRk r=>?_) (λj x H' N O hx B R' u Qq kq=>?_) (λv H' B R' M=>?_)
  .cbv;exact r
  .cbv;have hm:=cI hx;refine⟨x,p,G,Y,D,N,O,rfl,C x hm,R',u,λe=>?_,λe v q o n M=>kq v q o n ⟨M,e⟩⟩;refine(d ?_).imp λH3 m=>(aq.upd.trans B).trans m;have:g.all Sw66.lineOk=false:=by
    rw[List.all_eq_false];exact⟨x,hm,by rw[e];simp⟩
   rw[this,Ni]
  refine k ?_ v H' (aq.upd.trans B) (aV.same lp.mn (fD λb J=>?_) M)
  .mleft;obtain⟨_,_,_,_,z⟩:=M;mright;rw[z.all λy a r=>r.2];simp[c]
  by_cases e:b=p
  .rw[e,af]at J;cases J
  rw[aj e]at J;exact J
 rw[ag ao];cbv;refine gP ⟨U.Ii,U.VT⟩ ((d (by simp[c])).imp λH3 m=>aq.upd.same m)
end
end
section
def Cv(n:Nat):Bool:=decide (1<=n)&&decide (n<=3)
def E2(t:Ad):Sp:=λvs H Q _=>X2 λ(v:V) (a:Sw66.Alt)=>Y3 (vs=[v]) (pE t H v a) (∀Y,aw H Y->Q (.bl (Sw66.altOk a)) Y)
theorem LR{a:Sw66.Alt}:Sw66.altOk a=true↔a.cost<=100/\a.row.length<=4/\(a.row.map Cv).all id=true:=by
 unfold Sw66.altOk Sw66.ROW;simp only[gN,dI,AH,Ab,id,jV,Cv]
theorem EZ(T:Txt K mg t):aM P w K mg base bX 2 t.rb t.nB ["way"] (E2 t):=by
 refine T.nF.ok nA (λvs H Q E h=>?_) (λI A U s H vs Q E hr h=>?_)
 .mleft;obtain⟨v,a,rfl,_⟩:=h;mright;rfl
 mleft;obtain⟨v,a,rfl,W,k⟩:=h;mright;mleft;obtain⟨x,G,r,rfl,C,L⟩:=id W;mright;have O:¬Sw66.altOk a=true->∀H',aw H H'->Q (.bl false) H':=λn=>by
  rw[Kn]at n;rw[n]at k;exact k
 rw[LR]at O;refine⟨_,ah (bZ ((qj (aW iY (aF T.ph T.sM (pv 0)) (cH ay T.Pe) (aR _)) (nU (aW iY (bH dP ay T.dk PySem.boot_len (aa (aF T.ph T.qg (pv 0)) ai)) (cH ay T.rF) (aR _)))).pt) (ak (aK (i9))) bp)
  (ak (aK (bH (OC rfl) ay T.OE VS.boot_all (aa (iX rfl nA.nd (dc (aF T.ph T.qg (pv 0))) (b6 (own:=[("member",1)]) ay) (λ_ _ _ _ _=>(aE (i:=1) nA.nd rfl aI)) (λ_ _ _ _ _=>cW) (λ_ _ _ _ _=>(N9 (eM SU (ax) (pv 1) (aR _)) (Ip (eM SU (pv 1) (cH ay T.zh) (aR _)))))) ai)))),?_⟩
 cbv;by_cases J:a.cost<=100
 .rw[ae ao];cbv;refine⟨_,.inl (.of L),?_⟩;cbv;by_cases N:a.row.length<=4
  .rw[ae ao];cbv;refine BV (a:=r) (H1:=H) (λR r=>by cbv;exact r) (.of L) (iJ (a.row.map λn=>V.int (n:Nat)) λv=>match v with|.int i=>V.bl (decide (1<=i)&&decide (i<=3))|_=>.aX) rfl (λD i x H' M Y p=>?_) (λD H' M p=>?_)
   .obtain⟨n,_,rfl⟩:∃n,a.row[i]?=some n/\V.int (n:Nat)=x:=by rw[cM,lM]at Y;exact Y
    have hz:(a.row.map λn=>V.int (n:Nat)).length<=sizeLine:=by rw[bG];exact bT N aG
    cbv;by_cases q:(1:Int)<=n
    .rw[ag q];exact iJ.next p Y (by simp[q]) (.refl _) M hz
    rw[ae q];exact iJ.next p Y (by simp[q]) (.refl _) M hz
   have e:=iJ.done p;rw[cf]at e;refine⟨D,a.row.map Cv,rfl,.of ?_,?_⟩
   .rw[e,cf];congr 2;refine kZ λn _=>?_;show V.bl _=V.bl _;unfold Cv;congr 2
    .exact decide_eq_decide.mpr ao
    exact decide_eq_decide.mpr ao
   have:Sw66.altOk a=(a.row.map Cv).all id:=by
    rw[lU,LR];exact⟨λh=>h.2.2,λh=>⟨J,N,h⟩⟩
   rw[this]at k;exact k H' p.1
  rw[ag ao];exact O (λn=>N n.2.1) H (.refl H)
 rw[ag ao];exact O (λn=>J n.1) H (.refl H)
abbrev kd(t:Ad):Hp->V->List (List Sw66.Alt)->Prop:=aV (iS t)
theorem iS.mn:∀H Y y a,aw H Y->iS t H y a->iS t Y y a:=λ_ _ _ _ s h=>h.same s
theorem kd.same{H Y:Hp}{v:V}{a:List (List Sw66.Alt)}(s:aw H Y)(h:kd t H v a):kd t Y v a:=aV.same iS.mn s h
def placeOk(p:List Sw66.Alt):Bool:=!p.isEmpty&&(decide (p.length<=3)&&p.all Sw66.altOk)
def placesOk(ps:List (List Sw66.Alt)):Bool:=decide (1<=ps.length)&&(decide (ps.length<=8)&&ps.all placeOk)
theorem xO{p:List Sw66.Alt}:placeOk p=true↔1<=p.length/\p.length<=3/\(p.map Sw66.altOk).all id=true:=by
 unfold placeOk;simp only[gN,dI,AH,Ab,id,jV,YT];refine and_congr ?_ Iff.rfl;cases p<;>simp
theorem CO{ps:List (List Sw66.Alt)}:placesOk ps=true↔1<=ps.length/\ps.length<=8/\∀p∈ps,placeOk p=true:=by
 unfold placesOk;simp only[gN,dI,jV]
def zL(t:Ad):Sp:=λvs H Q _=>X2 λ(v:V) (a:List (List Sw66.Alt))=>Y3 (vs=[v]) (kd t H v a) (∀Y,aw H Y->Q (.bl (placesOk a)) Y)
theorem yR(T:Txt K mg t):aM P w K mg base bX 4 t.mi t.jT ["places"] (zL t):=by
 refine T.jX.ok gr (λvs H Q E h=>?_) (λab A B s H vs Q E hr h=>?_)
 .mleft;obtain⟨v,a,rfl,_⟩:=h;mright;rfl
 mleft;obtain⟨v,ps,rfl,W,k⟩:=h;mright;mleft;obtain⟨x,ys,rfl,I,z⟩:=id W;mright;have O:¬placesOk ps=true->∀H',aw H H'->Q (.bl false) H':=λn=>by
  rw[Kn]at n;rw[n]at k;exact k
 rw[CO]at O;refine⟨_,ah (bZ ((qj (aW qw (bH dP ay T.dk PySem.boot_len (aa (pv 0) ai)) (ax) (aR _)) (nU (aW iY (bH dP ay T.dk PySem.boot_len (aa (pv 0) ai)) (cH ay T.KI) (aR _)))).pt) (ak (aK (i9))) bp)
  (ah (cz cO rfl (dc (pv 0)) (aE (i:=1) gr.nd rfl aI) (ah (bZ ((qj (aW qw (bH dP ay T.dk PySem.boot_len (aa (pv 1) ai)) (ax) (aR _)) (nU (aW iY (bH dP ay T.dk PySem.boot_len (aa (pv 1) ai)) (cH ay T.OM) (aR _)))).pt) (ak (aK (i9))) bp)
  (ak (bZ (yU (tu (bH (OC rfl) ay T.OE VS.boot_all (aa (iX rfl gr.nd (dc (pv 1)) (b6 (own:=[("way",2)]) ay) (λ_ _ _ _ _=>(aE (i:=2) gr.nd rfl aI)) (λ_ _ _ _ _=>cW) (λ_ _ _ _ _=>(aB (EZ T) aN ay T.E4 T.nF.kp (E5 T) .nil aC (aa (pv 2) ai)))) ai)))) (ak (aK (i9))) bp))))
  (ak (aK (i9)))),?_⟩
 cbv;refine⟨_,.inl (.of I),?_⟩;cbv;rw[z.1];by_cases c:1<=ps.length
 .rw[ae ao];cbv;refine⟨_,.inl (.of I),?_⟩;cbv;rw[z.1];by_cases b:ps.length<=8
  .rw[ae ao];cbv;refine forL (a:=x) (H1:=H) (λR r=>by cbv;exact r) (.of I) (λi σ H'=>(∃u o,σ=[some (.ref x),u,o])/\aw H H'/\∀p∈ps.take i,placeOk p=true) ⟨⟨_,_,rfl⟩,.refl H,by simp⟩ (λi σ H' _ p=>.of (p.2.1 _ _ I)) (λi y σ H' hy p=>?_) (λσ H' p=>?_)
   .mleft;obtain⟨⟨u,o,rfl⟩,Y,G⟩:=p;mright;mleft;obtain⟨pl,N,y1,zs,rfl,M,C⟩:=z.get hy;mright;have m:=cI N;replace M:=Y _ _ M;cbv;refine⟨_,.inl (.of M),?_⟩;cbv;rw[C.1];by_cases c3:1<=pl.length
    .rw[ae ao];cbv;refine⟨_,.inl (.of M),?_⟩;cbv;rw[C.1];by_cases l:pl.length<=3
     .rw[ae ao];cbv;refine BV (a:=y1) (H1:=H') (λR r=>by cbv;exact r) (.of M) (λi j _=>j=((pl.take i).map Sw66.altOk).map V.bl) rfl (λD i x' H2 hD hx g=>?_) (λD H2 hD g=>?_)
      .obtain⟨w,hw,W⟩:=C.get hx;mleft;obtain⟨L,f,U,e⟩:=g;mright;cbv;refine⟨_,w,rfl,W.same (Y.trans L),λH3 s3=>dW.next hD (L.trans s3) (s3 _ _ U) ?_ ?_⟩
       .rw[e];simp only[bG,iA];exact d8 (Ng _ _) (d8 l aG)
       rw[e,bo hw];simp
      mleft;obtain⟨L,f,U,e⟩:=g;mright;rw[C.1,eG]at e;refine⟨D,_,rfl,.of (by rw[U,e]),?_⟩
      cbv;have pk:placeOk pl=(pl.map Sw66.altOk).all id:=by
       rw[lU,xO];exact⟨λh=>h.2.2,λh=>⟨c3,l,h⟩⟩
      rw[<-pk];cases d:placeOk pl with
      |false =>
       rw[ag (by first|rfl|simp)]
       exact O (λn=>by rw[n.2.2 pl m]at d;cases d) H2 (Y.trans L)
      |true =>
       rw[ae aP];cbv;refine⟨⟨_,rfl⟩,Y.trans L,?_⟩;rw[bo N];intro q J;rcases lV.mp J with J|J
       .exact G q J
       rw[oK.mp J];exact d
     rw[ag ao];exact O (λn=>l (xO.mp (n.2.2 pl m)).2.1) H' Y
    rw[ag ao];exact O (λn=>c3 (xO.mp (n.2.2 pl m)).1) H' Y
   mleft;obtain⟨⟨u,o,rfl⟩,Y,G⟩:=p;mright;rw[z.1,eG]at G;cbv;have:placesOk ps=true:=CO.mpr ⟨c,b,G⟩;rw[this]at k;exact k H' Y
  rw[ag ao];exact O (λn=>b n.2.1) H (.refl H)
 rw[ag ao];exact O (λn=>c n.1) H (.refl H)
def Er(n:Nat)(x:Nat×Nat):Bool:=decide (x.1<n)&&(decide (1<=x.2)&&decide (x.2<=4))
def CL(n:Nat)(c:Sw66.Cut):Bool:=decide (c.spots.length<=6)&&c.spots.all (Er n)
def tp(Y:List Sw66.Cut)(n:Nat):Bool:=decide (Y.length<=4)&&Y.all (CL n)
theorem u7{n:Nat}{x:Nat×Nat}:Er n x=true↔x.1<n/\1<=x.2/\x.2<=4:=by
 unfold Er;simp only[gN,dI]
theorem qy{n:Nat}{c:Sw66.Cut}:CL n c=true↔c.spots.length<=6/\∀s∈c.spots,Er n s=true:=by
 unfold CL;simp only[gN,dI,jV]
theorem JN{n:Nat}{Y:List Sw66.Cut}:tp Y n=true↔Y.length<=4/\∀s∈Y,CL n s=true:=by
 unfold tp;simp only[gN,dI,jV]
theorem ab8(M:Sw66.Metre):M.ok=(placesOk M.places&&tp M.cuts M.places.length):=by
 unfold Sw66.Metre.ok placesOk tp;simp only[Bool.and_assoc,Sw66.PLACES,Sw66.CUTS];rfl
abbrev tE(t:Ad):Hp->V->List Sw66.Cut->Prop:=aV (qz t)
theorem qz.mn:∀H Y y a,aw H Y->qz t H y a->qz t Y y a:=λ_ _ _ _ s h=>h.same s
theorem tE.same{H Y:Hp}{v:V}{a:List Sw66.Cut}(s:aw H Y)(h:tE t H v a):tE t Y v a:=aV.same qz.mn s h
def Cj(t:Ad):Sp:=λvs H Q _=>X3 λ(v:V) (Y:List Sw66.Cut) (n:Nat)=>Y3 (vs=[v,.int n]) (tE t H v Y) (∀U,aw H U->Q (.bl (tp Y n)) U)
theorem iR{α:Type}{xs:List α}{i:Nat}{x:α}{P:α->Prop}(h:xs[i]?=some x)(a:∀y∈xs.take i,P y)(b:P x):∀y∈xs.take (i+1),P y:=by
 rw[bo h];intro q Y;rcases lV.mp Y with Y|Y
 .exact a q Y
 rw[oK.mp Y];exact b
theorem Ck(T:Txt K mg t):aM P w K mg base bX 2 t.oF t.lg ["cuts","place_count"] (Cj t):=by
 refine T.kY.ok k8 (λvs H Q E h=>?_) (λab A o s H vs Q E hr h=>?_)
 .mleft;obtain⟨v,a,n,rfl,_⟩:=h;mright;rfl
 mleft;obtain⟨v,C,n,rfl,W,k⟩:=h;mright;mleft;obtain⟨x,ys,rfl,m,z⟩:=id W;mright;have L:¬tp C n=true->∀H',aw H H'->Q (.bl false) H':=λn=>by
  rw[Kn]at n;rw[n]at k;exact k
 rw[JN]at L;refine⟨_,ah (bZ (aW iY (bH dP ay T.dk PySem.boot_len (aa (pv 0) ai)) (cH ay T.P2) (aR _)) (ak (aK (i9))) bp)
  (ah (cz cO rfl (dc (pv 0)) (aE (i:=2) k8.nd rfl aI) (ah (bZ (aW iY (bH dP ay T.dk PySem.boot_len (aa (aF T.zo T.pV (pv 2)) ai)) (cH ay T.MG) (aR _)) (ak (aK (i9))) bp)
  (ak (cz cO rfl (dc (aF T.zo T.pV (pv 2))) (aE (i:=3) k8.nd rfl aI) (ak (bZ ((qj (aW Nz (aS zt (pv 3) (ax) (λ_ _=>rfl)) (pv 1) (aR _)) (qj (aW qw (aS zt (pv 3) (ax) (λ_ _=>rfl)) (ax) (aR _)) (nU (aW iY (aS zt (pv 3) (ax) (λ_ _=>rfl)) (cH ay T.rF) (aR _))))).pt) (ak (aK (i9))) bp))))))
  (ak (aK (i9)))),?_⟩
 cbv;refine⟨_,.inl (.of m),?_⟩;cbv;rw[z.1];by_cases d:C.length<=4
 .rw[ae ao];cbv;refine forL (a:=x) (H1:=H) (λR r=>by cbv;exact r) (.of m) (λi σ H'=>(∃l O,σ=[some (.ref x),some (.int n),l,O])/\aw H H'/\∀p∈C.take i,CL n p=true) ⟨⟨_,_,rfl⟩,.refl H,by simp⟩ (λi σ H' _ p=>.of (p.2.1 _ _ m)) (λi y σ H' hy p=>?_) (λσ H' p=>?_)
  .mleft;obtain⟨⟨l,O,rfl⟩,Y,B⟩:=p;mright;mleft;obtain⟨c,b,y1,dx,r,rfl,g1,r1,zs,rfl,I,g⟩:=z.get hy;mright;have u:=cI b;replace g1:=Y _ _ g1;replace I:=Y _ _ I;cbv;refine⟨_,.inl (.of I),?_⟩;cbv;rw[g.1];by_cases c3:c.spots.length<=6
   .rw[ae ao];cbv;refine forL (a:=r1) (H1:=H') (λR r=>by cbv;exact r) (.of I) (λj σ J=>(∃O,σ=[some (.ref x),some (.int n),some (.ref y1),O])/\aw H' J/\∀p∈c.spots.take j,Er n p=true) ⟨⟨_,rfl⟩,.refl H',by simp⟩ (λi σ H' _ p=>.of (p.2.1 _ _ I)) (λj y' σ J f e=>?_) (λσ J e=>?_)
    .mleft;obtain⟨⟨O,rfl⟩,N,U⟩:=e;mright;mleft;obtain⟨sp,G,q,rfl,D⟩:=g.get f;mright;have M:=cI G;replace D:=N _ _ (Y _ _ D);cbv;refine⟨_,_,.of D,rfl,?_⟩;cbv;by_cases d1:sp.1<n
     .rw[ae ao];cbv;refine⟨_,_,.of D,rfl,?_⟩;cbv;by_cases d2:1<=sp.2
      .rw[ae ao];cbv;refine⟨_,_,.of D,rfl,?_⟩;cbv;by_cases d3:sp.2<=4
       .rw[ae ao];exact⟨⟨_,rfl⟩,N,iR G U (u7.mpr ⟨d1,d2,d3⟩)⟩
       rw[ag ao];exact L (λn=>d3 (u7.mp ((qy.mp (n.2 c u)).2 sp M)).2.2) J (Y.trans N)
      rw[ag ao];exact L (λn=>d2 (u7.mp ((qy.mp (n.2 c u)).2 sp M)).2.1) J (Y.trans N)
     rw[ag ao];exact L (λn=>d1 (u7.mp ((qy.mp (n.2 c u)).2 sp M)).1) J (Y.trans N)
    mleft;obtain⟨⟨O,rfl⟩,N,U⟩:=e;mright;rw[g.1,eG]at U;exact⟨⟨_,_,rfl⟩,Y.trans N,iR b B (qy.mpr ⟨c3,U⟩)⟩
   rw[ag ao];exact L (λn=>c3 (qy.mp (n.2 c u)).1) H' Y
  mleft;obtain⟨⟨l,O,rfl⟩,Y,B⟩:=p;mright;rw[z.1,eG]at B;cbv;have:tp C n=true:=JN.mpr ⟨d,B⟩;rw[this]at k;exact k H' Y
 rw[ag ao];exact L (λn=>d n.1) H (.refl H)
end
section
theorem DK(a b:Nat):Builtin.bitOr (a:Int) (b:Int)=((a ||| b:Nat):Int):=by
 rw[Yu.X1 (Kw _) (Kw _)];rfl
abbrev jN(Y U T:V):List (Str×V):=[("places",Y),("all_met",U),("gains",T)]
def iG(H:Hp)(v:V)(r:List Nat):Prop:=∃x,v=.ref x/\H x=some (.lst (r.map λn=>V.int (n:Nat)))
theorem iG.same{H Y:Hp}{v:V}{r:List Nat}(s:aw H Y)(h:iG H v r):iG Y v r:=by
 obtain⟨x,e,h⟩:=h;exact⟨x,e,s _ _ h⟩
theorem iG.mn:∀H Y y a,aw H Y->iG H y a->iG Y y a:=λ_ _ _ _ s h=>h.same s
def sA(L:List Addr)(H Y:Hp):Prop:=∀b o,b∉L->H b=some o->Y b=some o
def iV(n:Nat):V:=.int (n:Int)
theorem N1:(λn:Nat=>V.int (n:Int))=iV:=rfl
structure GA(H':Hp)(G:Addr)(as:List Addr)(gs:List (List Nat)):Prop where
 out:H' G=some (.lst (as.map V.ref))
 len:as.length=gs.length
 row:∀(i:Nat) (a:Addr) (r:List Nat),as[i]?=some a->gs[i]?=some r->H' a=some (.lst (r.map iV))
theorem GA.or{O T:Hp}{G:Addr}{as:List Addr}{gs:List (List Nat)}{q j g:Nat}{a:Addr}{r:List Nat}(h:GA O G as gs)(M:as.Nodup)(L:G∉as)(Q:as[q]?=some a)(hr:gs[q]?=some r)(N:xB a O T)(J:T a=some (.lst ((r.map iV).set j (iV (r.getD j 0 ||| g))))):GA T G as (VM.nH gs q j g):=by
 have I:=cI Q;refine⟨?_,by simp[VM.nH,h.len],λi b H U Y=>?_⟩
 .rw[N G (λe=>L (e▸I))];exact h.out
 unfold VM.nH at Y;have E:gs.getD q []=r:=by rw[dU,hr];rfl
 rw[E]at Y;by_cases e:i=q
 .subst e;rw[Q]at U;cases U;rw[Bs (dE.mp hr).1]at Y;cases Y;rw[J,List.map_set]
 rw[G5 (bq e)]at Y;have D:b≠a:=λz=>by
  subst z;exact e ((List.getElem?_inj (dE.mp U).1 M).mp (U.trans Q.symm))
 rw[N b D];exact h.row i b H U Y
theorem sA.but{L:List Addr}{a:Addr}{H H1 H2:Hp}(s:sA L H H1)(b:xB a H1 H2)(h:a∈L):sA L H H2:=λc o n q=>by
 rw[b c (λe=>n (e▸h))];exact s c o n q
theorem yE{n j:Nat}(h:j<n):Dg n (j:Int)=some j:=by
 unfold Dg;simp[h]
def B1(t:Ad):Sp:=λvs H Q _=>X5 λ(p U:Addr) (v T:V) (M:Sw66.Metre)=>Y6 (vs=[.ref p,v,T]) (H p=some (.ins t.Metre U [])) (kd t H v M.places) (tE t H T M.cuts) (VM.fz M) (∀O Y,aq p H Y->Y p=some (.ins t.Metre U (jN v (.int ((VM.cutsOf M).1:Nat)) O))->aV iG (nw H Y) O (VM.cutsOf M).2->Q .aX Y)
theorem MP(T:Txt K mg t):aM P w K mg base bX 2 t.AW t.t9 ["self","places","cuts"] (B1 t):=by
 refine T.Bz.ok gO (λvs H Q E h=>?_) (λb1 A bc s H vs Q E hr h=>?_)
 .mleft;obtain⟨p,u,v,cv,M,rfl,_⟩:=h;mright;rfl
 mleft;obtain⟨p,u,v,cv,M,rfl,hp,hP,hC,ok,k⟩:=h;mright;mleft;obtain⟨U,ys,rfl,an,zp⟩:=id hP;mright;mleft;obtain⟨cx,b2,rfl,J,zc⟩:=id hC;mright;have n1:U≠p:=λe=>by rw[e,hp]at an;cases an
 refine⟨_,ah (g9 T.fm T.jh (pv 0) (pv 1))
  (ah (g9 T.fm T.ig (pv 0) (ax))
  (ah (g9 T.fm T.mY (pv 0) (iX rfl gO.nd (dc (pv 1)) (b6 (own:=[("place",6)]) ay) (λ_ _ _ _ _=>(aE (i:=6) gO.nd rfl aI)) (λ_ _ _ _ _=>cW) (λ_ _ _ _ _=>(bh OR (dt (aa (ax) ai)) (cH ay T.rF)))))
  (ak (cz cO rfl (dc (pv 2)) (aE (i:=3) gO.nd rfl aI) (ah (aH (i:=4) gO.nd rfl aI (cH ay T.xu))
  (ah (bZ (fS (aF T.zo T.yV (pv 3)) (λ_=>rfl)) (ah (aH (i:=4) gO.nd rfl aI (bh dq (aF T.fm T.ig (pv 0)) (ax)))
  (ak (JS T.fm T.ig (pv 0) (pv 4) HR))) bp)
  (ak (cz cO rfl (dc (aF T.zo T.pV (pv 3))) (aE (i:=5) gO.nd rfl aI) (ak (aaJ (aS mN (aF T.fm T.mY (pv 0)) (aS zt (pv 5) (ax) (λ_ _=>rfl)) (λ_ _=>rfl)) (bh yI (aS zt (pv 5) (ax) (λ_ _=>rfl)) (ax)) XH (pv 4) Wz set_list)))))))))),?_⟩
 cbv;refine⟨aG,?_⟩;cbv;refine⟨by show 1<1000;decide,?_⟩
 cbv;rw[fF];refine BV (a:=U) (H1:=upd H p (.ins t.Metre u [("places",.ref U),("all_met",.int 0)])) (λR r=>by cbv;exact r) (.of (by rw[aj n1];exact an)) (λi ys A=>∃as:List Addr,ys=as.map V.ref/\as.Nodup/\as.length=i/\∀a∈as,A a=some (.lst ([0,0,0,0].map iV))) ⟨[],rfl,.nil,rfl,by simp⟩ (λD i x H' hD hx p'=>?_) (λD H' hD p'=>?_)
 .mleft;obtain⟨s1,bd,l,as,C,e2,e3,e4⟩:=p';mright;cbv;refine⟨aG,λq hq=>?_⟩;refine⟨q,4,_,rfl,rfl,af,aG,aG,aG,λq2 ap=>?_⟩;have s2:aw H' (upd (upd H' q (.lst [.int 0])) q2 (.lst [.int 0,.int 0,.int 0,.int 0])):=(au hq).trans (au ap);refine dW.next hD (s1.trans s2) (s2 _ _ l) ?_ ⟨as++[q2],by rw[C];simp,?_,by simp[e3],λa O=>?_⟩
  .have:=(dE.mp hx).1;rw[C,bG,e3];rw[zp.1]at this;have:=ok.p8;exact eE (show i<9 by lia) aG
  .refine Hw.mpr ⟨e2,qD.mpr ⟨by simp,.nil⟩,λb hb c hc=>?_⟩
   rw[oK.mp hc];intro e;have:=(mI (e4 b hb)).2;rw[e]at this;have f:=(au (o:=.lst [.int 0]) hq).free ap;rw[f]at this;cases this
  rcases lV.mp O with O|O
  .exact Bt s2 _ _ (e4 a O)
  rw[oK.mp O];refine dm ?_ af;have f:=(au (o:=.lst [.int 0]) hq).free ap;by_cases e:q2=D
  .rw[e,l]at f;cases f
  rw[aj e];exact s1.free f
 mleft;obtain⟨s1,bd,l,as,C,nd,e3,e4⟩:=p';mright;rw[zp.1]at e3;subst C;have ar:H D=none:=by
  by_cases e:D=p
  .rw[e,af]at hD;cases hD
  rw[aj e]at hD;exact hD
 have a8:D≠p:=λe=>by rw[e,hp]at ar;cases ar
 have Y:∀a∈as,H a=none/\a≠p/\a≠D:=λa O=>by
  have q:=(mI (e4 a O)).1;have nD:a≠D:=λe=>by rw[e,af]at q;cases q
  rw[aj nD]at q;have np:a≠p:=λe=>by rw[e,af]at q;cases q
  rw[aj np]at q;exact⟨q,np,nD⟩
 have a9:D∉as:=λh=>(Y D h).2.2 rfl;have bx:p∉as:=λh=>(Y p h).2.1 rfl;refine⟨_,_,s1 _ _ af,by show 2<1000;decide,?_⟩
 cbv;have sH:aq p H H':=λb o nb q=>s1 _ _ (by rw[aj nb];exact q)
 obtain⟨H2,I⟩:∃H2,H2=upd H' p (.ins t.Metre u [("places",.ref U),("all_met",.int 0),("gains",.ref D)]):=⟨_,rfl⟩;rw[<-I];have d:aq p H H2:=by rw[I];exact sH.trans aq.upd
 have be:H2 p=some (.ins t.Metre u (jN (.ref U) (.int 0) (.ref D))):=by rw[I,af]
 have bi:GA H2 D as (VM.iE M).2:=by
  refine⟨by rw[I,aj a8];exact l,by rw[e3];simp[VM.iE],λi a r O hr=>?_⟩
  have ma:=cI O;have er:r=[0,0,0,0]:=by
   unfold VM.iE at hr;rw[cM,lM]at hr;obtain⟨_,_,e⟩:=hr;exact e.symm
  rw[I,aj (Y a ma).2.1,er];exact(mI (e4 a ma)).2
 clear I;have bl:VM.Shape M.places.length (VM.iE M).2:=⟨by simp[VM.iE],λr hr=>by simp[VM.iE]at hr;obtain⟨_,rfl⟩:=hr;rfl⟩
 have av:cx∉p::as:=λh=>by
  rcases b0.mp h with e|e
  .rw[e,hp]at J;cases J
  rw[(Y cx e).1]at J;cases J
 refine forL (a:=cx) (H1:=H2) (λR r=>by cbv;exact r) (.of (d _ _ (λe=>av (by simp[e])) J)) (λi σ m=>(∃v3 v4 B v6,σ=[some (.ref p),some (.ref U),some (.ref cx),v3,v4,B,v6])/\sA (p::as) H2 m/\
  m p=some (.ins t.Metre u (jN (.ref U) (.int (((M.cuts.take i).foldl VM.hU (VM.iE M)).1:Nat)) (.ref D)))/\GA m D as ((M.cuts.take i).foldl VM.hU (VM.iE M)).2/\VM.Shape M.places.length ((M.cuts.take i).foldl VM.hU (VM.iE M)).2)
  ⟨⟨_,_,_,_,rfl⟩,λ_ _ _ h=>h,be,bi,bl⟩ (λi σ m _ p3=>.of (p3.2.1 _ _ av (d _ _ (λe=>av (by simp[e])) J))) (λi y σ m hy p3=>?_) (λσ m p3=>?_)
 .mleft;obtain⟨⟨v3,v4,B,v6,rfl⟩,so,g1,ga,sh⟩:=p3;mright;mleft;obtain⟨c,hc,y1,b3,r,rfl,c1,r1,zs,rfl,c2,z1⟩:=zc.get hy;mright;have hm:=cI hc;have aL:∀b o,H b=some o->b≠p->b∉p::as/\H2 b=some o:=λb o q nb=>by
   refine⟨λh=>?_,d b o nb q⟩;rcases b0.mp h with e|e
   .exact nb e
   rw[(Y b e).1]at q;cases q
  have o1:=aL _ _ c1 (λe=>by rw[e,hp]at c1;simp[NZ]at c1)
  have o2:=aL _ _ c2 (λe=>by rw[e,hp]at c2;cases c2)
  have d1:=so _ _ o1.1 o1.2;have d2:=so _ _ o2.1 o2.2;rw[bo hc,yb,ng,NL];generalize (M.cuts.take i).foldl VM.hU (VM.iE M)=st at *;cbv;refine⟨c.must,rfl,?_⟩;have z:∀(DD:Ends) (H4:Hp) (u5 u6:Option V) (al:Nat),sA (p::as) H2 H4->H4 p=some (.ins t.Metre u (jN (.ref U) (.int (al:Nat)) (.ref D)))->GA H4 D as st.2->
    (∀σ N,(∃B,σ=[some (.ref p),some (.ref U),some (.ref cx),some (.ref y1),some (.int (VM.dZ st.1 c:Nat)),B,u6])->sA (p::as) H2 N->N p=some (.ins t.Metre u (jN (.ref U) (.int (al:Nat)) (.ref D)))->GA N D as (VM.fV (VM.dZ st.1 c) st.2 c.spots)->VM.Shape M.places.length (VM.fV (VM.dZ st.1 c) st.2 c.spots)->DD.nx σ N)->
    wy (Az K (Wd t.Cut (kF 3) "spots")) (fi 5) (UO (yN (Um K) (Wd t.Metre (kF 0) "gains") (yN (SW K) (kF 5) (tC (.int 0)))) (yN (sQ λi j=>V.int (i - j)) (yN (SW K) (kF 5) (tC (.int 1))) (tC (.int 1))) (kF 4) (Zl K) (sQ λi j=>V.int (Builtin.bitOr i j)) YF) DD
     [some (.ref p),some (.ref U),some (.ref cx),some (.ref y1),some (.int (VM.dZ st.1 c:Nat)),u5,u6] H4:=by
   intro DD H4 u5 u6 al a5 bm bn kk;have d1:=a5 _ _ o1.1 o1.2;have d2:=a5 _ _ o2.1 o2.2;refine forL (a:=r1) (H1:=H4) (λR r=>by cbv;exact r) (.of d2) (λj σ N=>(∃B,σ=[some (.ref p),some (.ref U),some (.ref cx),some (.ref y1),some (.int (VM.dZ st.1 c:Nat)),B,u6])/\sA (p::as) H2 N/\
    N p=some (.ins t.Metre u (jN (.ref U) (.int (al:Nat)) (.ref D)))/\GA N D as (VM.fV (VM.dZ st.1 c) st.2 (c.spots.take j))/\VM.Shape M.places.length (VM.fV (VM.dZ st.1 c) st.2 (c.spots.take j)))
    ⟨⟨_,rfl⟩,a5,bm,bn,sh⟩ (λi σ N _ p5=>.of (p5.2.1 _ _ o2.1 o2.2)) (λj y' σ N br p5=>?_) (λσ N p5=>?_)
   .mleft;obtain⟨⟨B,rfl⟩,ab,a6,L,G⟩:=p5;mright;mleft;obtain⟨sp,ba,q,rfl,C⟩:=z1.get br;mright;have bv:=cI ba;have o3:=aL _ _ C (λe=>by rw[e,hp]at C;cases C)
    replace C:=ab _ _ o3.1 o3.2;have Y1:=ok.spots c hm sp bv;rw[bo ba,show ∀g gs,VM.fV g gs (c.spots.take j++[sp])=VM.nH (VM.fV g gs (c.spots.take j)) sp.1 (sp.2 - 1) g from λg gs=>by unfold VM.fV;rw[yb];rfl]
    generalize VM.fV (VM.dZ st.1 c) st.2 (c.spots.take j)=gs at *;have bb:sp.1<gs.length:=by rw[G.1];exact Y1.1
    have a7:gs[sp.1]?=some gs[sp.1]:=cu bb;have am:as[sp.1]?=some as[sp.1]:=cu (by rw[L.len];exact bb)
    have row:=L.row _ _ _ am a7;have l4:=G.2 _ (cI a7);generalize gs[sp.1]=r0 at *;generalize as[sp.1]=a0 at *;have ma:=cI am;unfold UO;cbv;refine⟨_,_,.of C,rfl,?_⟩;cbv;refine⟨_,_,.of L.out,bE (by rw[cM,am];rfl),?_⟩
    cbv;refine⟨_,_,.of C,rfl,?_⟩;cbv;have i4:sp.2 - 1<r0.length:=by rw[l4];lia
    have ei:((sp.2:Int) - 1)=((sp.2 - 1:Nat):Int):=by lia
    rw[ei];refine⟨_,_,_,iV (r0.getD (sp.2 - 1) 0),rfl,rfl,ao,.of row,?_,?_⟩
    .rw[nc,cM,cu i4,dU,cu i4];rfl
    unfold iV;cbv;rw[DK];refine⟨_,_,_,sp.2 - 1,rfl,rfl,row,?_,?_⟩
    .exact yE (by rw[bG];exact i4)
    have bt:xB a0 N (upd N a0 (.lst ((r0.map iV).set (sp.2 - 1) (.int ((r0.getD (sp.2 - 1) 0 ||| VM.dZ st.1 c:Nat):Int))))):=λb n=>aj n;exact⟨⟨_,rfl⟩,ab.but bt (cF _ ma),(bt _ (bq (Y a0 ma).2.1)).trans a6,L.or nd a9 am a7 bt af,G.nH⟩
   mleft;obtain⟨⟨B,rfl⟩,ab,a6,L,G⟩:=p5;mright;rw[z1.1,eG]at L G;exact kk _ _ ⟨_,rfl⟩ ab a6 L G
  by_cases cm:c.must=true
  .rw[ag cm];cbv;have eg:VM.dZ st.1 c=st.1+1:=by unfold VM.dZ;rw[ag cm]
   have ea:VM.lP st.1 c=st.1+(st.1+1):=by unfold VM.lP;rw[ag cm]
   cbv;refine⟨by show 3<1000;decide,?_⟩
   rw[show((st.1:Int)+1)=(VM.dZ st.1 c:Nat)by rw[eg];lia]
   have bt:xB p m (upd m p (.ins t.Metre u (jN (.ref U) (.int ((VM.lP st.1 c:Nat):Int)) (.ref D)))):=λb n=>aj n;rw[show((st.1:Int)+(VM.dZ st.1 c:Nat))=(VM.lP st.1 c:Nat)by rw[eg,ea];lia]
   cbv;refine z _ _ _ _ (VM.lP st.1 c) (so.but bt (df ..)) af ⟨(bt _ a8).trans ga.out,ga.len,λi a r O hr=>(bt _ (Y a (cI O)).2.1).trans (ga.row i a r O hr)⟩ ?_;rintro σ N ⟨B,rfl⟩ a1 a2 a3 a4;exact⟨⟨_,_,_,_,rfl⟩,a1,a2,a3,a4⟩
  rw[ae cm];cbv;have eg:VM.dZ st.1 c=16:=by unfold VM.dZ;rw[ae cm]
  have ea:VM.lP st.1 c=st.1:=by unfold VM.lP;rw[ae cm]
  rw[show(16:Int)=(VM.dZ st.1 c:Nat)by rw[eg];rfl]
  refine z _ _ _ _ st.1 so g1 ga ?_;rintro σ N ⟨B,rfl⟩ a1 a2 a3 a4;refine⟨⟨_,_,_,_,rfl⟩,a1,?_,a3,a4⟩;show _=some (HO.ins t.Metre u (jN (.ref U) (.int ((VM.lP st.1 c:Nat):Int)) (.ref D)));rw[ea];exact a2
 mleft;obtain⟨⟨v3,v4,B,v6,rfl⟩,so,g1,ga,sh⟩:=p3;mright;rw[zc.1,eG]at g1 ga;have fin:∀b o,b≠p->H b=some o->m b=some o:=λb o nb q=>so b o (λh=>by
  rcases b0.mp h with e|e
  .exact nb e
  rw[(Y b e).1]at q;cases q) (d b o nb q)
 refine k (.ref D) m fin g1 ⟨D,_,rfl,dm ar ga.out,by simp[ga.len];rfl,λj y r hy hr=>?_⟩
 rw[cM,lM]at hy;obtain⟨a,O,rfl⟩:=hy;exact⟨a,rfl,dm (Y a (cI O)).1 (ga.row j a r O hr)⟩
end
section
def cS(t:Ad)(H:Hp)(v:V)(M:Sw66.Metre):Prop:=M.ok=true/\X4 λx U pv Y=>Y4 (v=.ref x) (H x=some (.ins t.Metre U (jN pv (.int ((VM.cutsOf M).1:Nat)) Y))) (kd t H pv M.places) (aV iG H Y (VM.cutsOf M).2)
theorem cS.same{H Y:Hp}{v:V}{M:Sw66.Metre}(s:aw H Y)(h:cS t H v M):cS t Y v M:=by
 mleft;obtain⟨o,x,U,pv,T,e,Q,O,N⟩:=h;mright;exact⟨o,x,U,pv,T,e,s _ _ Q,O.same s,aV.same iG.mn s N⟩
theorem cS.mn:∀H Y y a,aw H Y->cS t H y a->cS t Y y a:=λ_ _ _ _ s h=>h.same s
theorem S5{H:Hp}{Q:Addr->Hp->Prop}{E:L2.XK}{v N:V}{M:Sw66.Metre}(J:kd t H v M.places)(I:tE t H N M.cuts)(ok:VM.fz M)
  (k:∀x Y T U,H x=none->aw H U->U x=some (.ins t.Metre Y (jN v (.int ((VM.cutsOf M).1:Nat)) T))->aV iG (nw H U) T (VM.cutsOf M).2->Q x U):∀x Y,H x=none->H Y=none->Y≠x->B1 t [V.ref x,v,N] (upd (upd H Y (.own x)) x (.ins t.Metre Y [])) (λv G=>v=.aX/\Q x G) E:=by
 intro x Y L hd n;have O:aw H (upd (upd H Y (.own x)) x (.ins t.Metre Y [])):=(au hd).trans (au (by rw[aj (bq n)];exact L))
 refine⟨x,Y,v,N,M,rfl,af,J.same O,I.same O,ok,λT U D C B=>⟨rfl,k x Y T U L (λb o q=>?_) C (aV.same iG.mn (fD λb A=>O.free A) B)⟩⟩;exact D b o (aO q L) (O b o q)
def ME(K:W.Frag)(t:Ad):Sp:=λvs H Q E=>X7 λ(M:Sw66.Metre) (p O Y:Addr) (T pre post:List Int)=>Y6 (vs=[.ref p]) (VM.okM M) (dv K t H p O Y T pre.length) (T=pre++(VM.Cq M++post)) (M.ok=false->Refs K t E (-1) (aq p H)) (M.ok=true->∀v U,aq p H U->cS t (nw H U) v M->Q v U)
theorem MM(T:Txt K mg t)(L:fM K t):aM P w K mg base (jB P w) 8 t.Br t.tP ["reader"] (ME K t):=by
 refine m8 T.ua kP (λvs H Q E h=>?_) (λam A l s H vs Q E hr h=>?_)
 .mleft;obtain⟨M,p,G,Y,J,pre,post,rfl,_⟩:=h;mright;rfl
 mleft;obtain⟨M,p,G,Y,J,pre,post,rfl,q,R,g,kE,k⟩:=h;mright;refine⟨_,ah (ka (i:=1) rfl kP.nd rfl rfl (kU rfl rfl rfl rfl) (eL ay T.dG (aa (b5 (pv 0) T.bj T.bA (bB T) aN (bz T) .nil aC) ai)) (b6 (own:=[("place",3)]) ay) (λ_ _ _ _ _=>(aE (i:=3) kP.nd rfl aI)) (λ_ _ _ _ _=>cW) (λ_ _ _ _ _=>(aB (MA T) aN ay T.My T.tU.kp (MT T) .nil aC (aa (pv 0) ai))))
  (ah (ka (i:=2) rfl kP.nd rfl rfl (kU rfl rfl rfl rfl) (eL ay T.dG (aa (b5 (pv 0) T.bj T.bA (bB T) aN (bz T) .nil aC) ai)) (b6 (own:=[("cut",4)]) ay) (λ_ _ _ _ _=>(aE (i:=4) kP.nd rfl aI)) (λ_ _ _ _ _=>cW) (λ_ _ _ _ _=>(aB (QV T) aN ay T.QR T.yy.kp (Q9 T) .nil aC (aa (pv 0) ai))))
  (ah (bZ ((qj (yU (tu (aB (yR T) aN ay T.zi T.jX.kp (yF T) .nil aC (aa (pv 1) ai)))) (nU (yU (tu (aB (Ck T) aN ay T.Ce T.kY.kp (Cg T) .nil aC (aa (pv 2) (aa (bH dP ay T.dk PySem.boot_len (aa (pv 1) ai)) ai))))))).pt) (ak (jx rfl fU L.Ii L.in1 L.Zr (jG T L) aN ay T.pz (jD T))) bp)
  (ak (aK (d7 T.Ye (MP T) aN ay T.XG (M3 T) .nil aC (aa (pv 1) (aa (pv 2) ai))))))),?_⟩
 unfold VM.Cq at g;have D:J=pre++(VM.eList (VM.eList VM.Ae) M.places++(VM.eList VM.Kh M.cuts++post)):=by rw[g];simp
 cbv;refine vS (R:=iS t) iS.mn q.1.1 (aq.upd (H:=H)) R.G7 D (λRk r=>?_) (λj x H' N U C sx f I Qq e=>?_) (λv H1 B d hv=>?_)
 .cbv;exact⟨_,_,R.obj,rfl,p,G,Y,J,_,_,rfl,R,(by rw[D];exact rX _ _),r⟩
 .cbv;exact⟨x,(q.1.2 x (cI C)).1,p,G,Y,J,N,U,rfl,f,I,e⟩
 cbv;have z:J=(pre++VM.eList (VM.eList VM.Ae) M.places)++(VM.eList VM.Kh M.cuts++post):=by rw[g];simp
 have y:dv K t H1 p G Y J (pre++VM.eList (VM.eList VM.Ae) M.places).length:=d.cast aP;refine vS (R:=qz t) qz.mn q.2.1 (aq.upd (H:=H1)) y.G7 z (λRk r=>?_) (λj x H' N U C sx f I Qq e=>?_) (λv2 H2 u R2 c=>?_)
 .cbv;exact⟨_,_,d.obj,rfl,p,G,Y,J,_,_,rfl,y,(by rw[z];exact rX _ _),r⟩
 .cbv;exact⟨x,(q.2.2 x (cI C)).1,p,G,Y,J,N,U,rfl,f,I,e⟩
 cbv;have o:kd t (nw H H2) v M.places:=kd.same (nwX R.obj u) hv;have hC:tE t (nw H H2) v2 M.cuts:=tE.same (fD λb a=>d.fr B a) c;have ok:=ab8 M;refine⟨v,M.places,rfl,o.same cP,λH3 n=>?_⟩;cbv;cases c1:placesOk M.places with
 |false =>
  rw[ag (by first|rfl|simp)]
  cbv;rw[c1,IG]at ok;exact gP ⟨L.Ii,L.VT⟩ ((kE ok).imp λH4 s4=>(B.trans u).same (n.trans s4))
 |true =>
  rw[ae aP];cbv;mleft;obtain⟨px,ys,rfl,ab,zp⟩:=id o;mright;refine⟨px,rfl,_,.inl (.of (n _ _ (cP _ _ ab))),?_⟩;cbv;rw[zp.1];refine⟨v2,M.cuts,M.places.length,rfl,(hC.same cP).same n,λH4 s4=>?_⟩;cbv;have O:=n.trans s4;rw[c1,IX]at ok;cases c2:tp M.cuts M.places.length with
  |false =>
   rw[c2]at ok;simp only[dB];exact gP ⟨L.Ii,L.VT⟩ ((kE ok).imp λH5 m=>(B.trans u).same (O.trans m))
  |true =>
   rw[c2]at ok;cbv;try simp only[reduceCtorEq,gA]
   cbv;refine S5 (M:=M) ((o.same cP).same O) ((hC.same cP).same O) (.of ok) λx al gv H5 C m h5 h6=>?_;have fr:∀b,H4 b=none->H b=none:=λb a=>(R2.same O).fr ((B.trans u).same O) a;exact k ok _ H5 ((B.trans u).same (O.trans m)) ⟨ok,x,al,_,gv,rfl,dm (fr x C) h5,o.same (Bt (O.trans m)),aV.same iG.mn (fD fr) h6⟩
end
section
theorem sk{k:Nat}{A:Around}(r:fc k A):A.units+1<cLine:=by have:=r.units;lia
theorem qB(a b:Nat):Builtin.bitAnd (a:Int) (b:Int)=((a &&& b:Nat):Int):=by
 rw[bitAnd_pp (Kw _) (Kw _)];rfl
theorem Sg:∀ts:List Bool,VM.maskOf ts<1048576 ^ ts.length
 |[]=>aG
 |t::ts=>by
  have:=Sg ts;show(if t=true then 1048575 else 0)+1048576*VM.maskOf ts<1048576 ^ (ts.length+1)
  rw[yp];split<;>lia
theorem LF(b:Bool):∀ts:List Bool,VM.maskOf (ts++[b])=VM.maskOf ts+(if b=true then 1048575 else 0)*1048576 ^ ts.length
 |[]=>by cases b<;>rfl
 |t::ts=>by
  show(if t=true then 1048575 else 0)+1048576*VM.maskOf (ts++[b])=(if t=true then 1048575 else 0)+1048576*VM.maskOf ts+_*1048576 ^ (ts.length+1)
  rw[LF b ts,yp,NH,xD (1048576 ^ ts.length) 1048576,Nat.mul_left_comm];lia
theorem p20(n:Nat):1048576 ^ n=2 ^ (20*n):=by rw[Nat.pow_mul]
def Ks(K:W.Frag):Sp:=λvs H Q _=>X2 λ(a:Addr) (ts:List Bool)=>Y4 (vs=[.ref a]) (dn K H a (ts.map V.bl)) (ts.length<=24) (∀Y,aw H Y->Q (.int (VM.maskOf ts:Nat)) Y)
theorem rH(T:Txt K mg t):aM P w K mg base bX 2 t.ya t.rN ["truths"] (Ks K):=by
 refine T.j2.ok jJ (λvs H Q E h=>?_) (λC A N s H vs Q E hr h=>?_)
 .mleft;obtain⟨a,ts,rfl,_⟩:=h;mright;rfl
 mleft;obtain⟨a,ts,rfl,J,z,k⟩:=h;mright;refine⟨_,ah (aH (i:=1) jJ.nd rfl aI (ax))
  (ah (cz cO rfl (gB ay T.c7 (aa (pv 0) ai)) (zB rfl (bu (aE (i:=2) jJ.nd rfl aI) (bu (aE (i:=3) jJ.nd rfl aI) d9))) (ak (bZ (fS (pv 3) (λ_=>rfl)) (ak (QL (i:=1) jJ.nd rfl aI (bh vb (cH ay T.OP) (bh Oc (cH ay T.rm) (pv 2))) Wz)) bp)))
  (ak (aK (pv 1)))),?_⟩
 cbv;refine AA (a:=a) (H1:=H) (λR r=>by cbv;exact r) J (λi σ Y=>(∃M L,σ=[some (.ref a),some (.int (VM.maskOf (ts.take i):Nat)),M,L])/\aw H Y) ⟨⟨_,_,rfl⟩,.refl H⟩ (λi σ Y _ p=>p.2.seq J) (λi σ Y T o B p=>⟨p.1,p.2.trans (au B)⟩) (λi x σ Y I p=>?_) (λσ Y p=>?_)
 .mleft;obtain⟨⟨M,L,rfl⟩,O⟩:=p;mright;rw[cM,lM]at I;obtain⟨b,G,rfl⟩:=I;have y:=(dE.mp G).1;have tl:(ts.take i).length=i:=by rw[iA];lia
  cbv;refine⟨b,rfl,?_⟩;have U:=LF b (ts.take i);rw[<-bo G,tl]at U;cases b with
  |false =>
   rw[ae aP]at U ⊢;rw[Nat.zero_mul,C7]at U;cbv;rw[U];exact⟨rfl,⟨_,rfl⟩,O⟩
  |true =>
   rw[ag rfl]at U ⊢;cbv;refine⟨.inl ⟨aG,aG⟩,⟨ao,ao,?_⟩,?_,⟨_,rfl⟩,O⟩
   .exact eE (show(1048575:Int).natAbs<2 ^ 20 by decide) (yx aG aG)
   have D:=Sg (ts.take i);rw[tl,p20]at D;rw[show(20*(i:Int)).toNat=20*i by lia,Yu.UE ao (by exact_mod_cast D) aG,U,p20]
   simp
 mleft;obtain⟨⟨M,L,rfl⟩,O⟩:=p;mright;cbv;rw[eG];exact k Y O
theorem zM{ts:List Bool}{v:List Nat}(h:VM.Small v)(N:v.length=ts.length+1)(M:ts.length<=24):Builtin.bitAnd (VM.pack v:Int) (VM.maskOf ts:Int)*2 ^ (20:Int).toNat=(VM.pack (VM.ik ts v):Int)/\abz (Builtin.bitAnd (VM.pack v:Int) (VM.maskOf ts:Int)) 20:=by
 have e:=VM.Uh (VM.wN ts v);have Y:=VM.O0 ts v h;rw[Nat.shiftLeft_eq]at e;rw[qB,Y];refine⟨?_,aG,aG,?_⟩
 .show((VM.pack (VM.wN ts v):Nat):Int)*2 ^ 20=(VM.pack (0::VM.wN ts v):Int);rw[e,TV];rfl
 have U:VM.pack v<1048576 ^ v.length:=VM.SD v h;have T:VM.pack (VM.wN ts v)<=VM.pack v:=by rw[<-Y];exact Nat.and_le_left
 have Q:1048576 ^ v.length<=1048576 ^ 25:=yx aG ao;have O:(1048576:Nat) ^ 25<=2 ^ 1000000:=by rw[p20];exact yx aG aG
 exact d8 T (eE U (bT Q O))
def yT:Sp:=λvs H Q _=>X2 λ(ts:List Bool) (v:List Nat)=>Y4 (vs=[.int (VM.pack v:Nat),.int (VM.maskOf ts:Nat)]) (ts.length<=24) (VM.tm ts v) (Q (.int (VM.pack (VM.joined ts v):Nat)) H)
theorem Vb{ts:List Bool}{m:List Nat}(T:m.length=ts.length+1)(h:VM.G0 (ts.length+1) m):VM.pack m=0:=by
 rw[VM.sU];intro x Y;obtain⟨i,U,rfl⟩:=NF Y;have:=h i ao;rw[dU,cu U]at this;exact this
theorem m4(T:Txt K mg t):aM P w K mg base bX 2 t.yt t.rA ["ahead","may_join"] (yT):=by
 refine T.hR.ok mS (λvs H Q E h=>?_) (λI A N s H vs Q E hr h=>?_)
 .mleft;obtain⟨ts,v,rfl,_⟩:=h;mright;rfl
 mleft;obtain⟨ts,v,rfl,L,O,k⟩:=h;mright;refine⟨_,ah (aH (i:=2) mS.nd rfl aI (bh vb (bh vC (pv 0) (pv 1)) (cH ay T.rm)))
  (ah (G6 cO (fS (pv 2) (λ_=>rfl)) (ah (QL (i:=0) mS.nd rfl aI (pv 2) Se)
  (ak (aH (i:=2) mS.nd rfl aI (bh vb (bh vC (pv 2) (pv 1)) (cH ay T.rm))))))
  (ak (aK (pv 0)))),?_⟩
 cbv;obtain⟨G,D⟩:=zM O.small O.1 L;rw[G];refine⟨D,?_⟩;cbv;refine⟨λf σ M=>M=H/\∃a m,σ=[some (.int (VM.pack a:Nat)),some (.int (VM.maskOf ts:Nat)),some (.int (VM.pack m:Nat))]/\f<=ts.length+1/\VM.wW ts v a m/\VM.G0 (ts.length+1 - f) m/\VM.kg ts f a m=VM.joined ts v,⟨ts.length+1,rfl,v,_,rfl,bD _,.zero O.1,(λi C=>absurd C ao),rfl⟩,?_⟩;rintro f σ M ⟨rfl,a,m,rfl,u,st,ld,J⟩;cbv;obtain⟨r,B⟩:=st.small O;refine⟨_,rfl,?_⟩;by_cases c:VM.pack m=0
 .rw[ae (by rw[c];decide)]
  cbv;have:VM.kg ts f a m=a:=by
   cases f with
   |zero=>rfl
   |succ f=>unfold VM.kg;rw[ag c]
  rw[<-J,this]at k;exact k
 rw[ag (by simp;lia)]
 cbv;obtain⟨f,rfl⟩:∃g,f=g+1:=by
  cases f with
  |zero=>exact absurd (Vb st.lm ld) c
  |succ g=>exact⟨g,rfl⟩
 obtain⟨z,y⟩:=zM B st.lm L;refine⟨λY U=>U=M/\Y=[some (.int (VM.pack (VM.rO a m):Nat)),some (.int (VM.maskOf ts:Nat)),some (.int (VM.pack (VM.ik ts m):Nat))],λY U q=>⟨f,ao,q.1,_,_,q.2,ao,st.next,?_,?_⟩,?_⟩
 .have:=ld.ik (ts:=ts);rw[show ts.length+1 - f=ts.length+1 - (f+1)+1 by lia]
  exact this
 .rw[<-J]
  conv=>rhs;unfold VM.kg
  rw[ae c]
 cbv;rw[z];refine⟨y,?_⟩;have:VM.pack (VM.rO a m)=VM.pack a+VM.pack m:=VM.G2 a m (by rw[st.la,st.lm])
 rw[this];simp
end
section
theorem Rv{H Y:Hp}{d:Addr}{U:Obj}{u:HO}(h:H d=some u)(s:aw (upd H d (.cV U u)) Y):aw H (upd Y d u):=λb o q=>by
 by_cases e:b=d
 .subst e;rw[h]at q;cases q;exact af
 rw[aj e];exact s b o (by rw[aj e];exact q)
theorem Yw{K:W.Frag}{J:TE}{I:TS}{D:Ends}{σ:L2.St}{H:Hp}{p q:Nat}{d:Addr}{Y:List (Key×V)}(hd:H d=some (.dK Y))(O:∀U (R:VK),R (.ref d) (upd H d (.cV U (.dK Y)))->J σ (upd H d (.cV U (.dK Y))) R)
  (Pv:Obj->Nat->L2.St->Hp->Prop) (G:∀U,Pv U 0 σ (upd H d (.cV U (.dK Y)))) (lk:∀U i σ Q,Pv U i σ Q->Q d=some (.cV U (.dK Y))) (grow:∀U i σ Q T o,Q T=none->Pv U i σ Q->Pv U i σ (upd Q T o))
  (E:∀U (i:Nat) k v σ Q,Y[i]?=some (k,v)->Pv U i σ Q->I ⟨Pv U (i+1),λv Q=>Q d=some (.cV U (.dK Y))/\D.rt v (upd Q d (.dK Y)),λN Q=>Q d=some (.cV U (.dK Y))/\D.nx N (upd Q d (.dK Y)),Pv U (i+1)⟩ ((σ.set p (some (kV k))).set q (some v)) Q)
  (C:∀U σ Q,Pv U Y.length σ Q->D.nx σ (upd Q d (.dK Y))):Ur (wy (Vc J) (Ba K 2 (lu (fi p) (lu (fi q) C6))) I) D σ H:=by
 refine⟨d,_,hd,trivial,λU=>O U _ ⟨d,U,Y,rfl,af,λi m σ Q=>m=Y.length - i/\i<=Y.length/\Pv U i σ Q,⟨_,rfl,dy _,G U⟩,?_⟩⟩;rintro i m σ Q ⟨rfl,r,pv⟩;have l:=lk U i σ Q pv;by_cases M:i<Y.length
 .refine .inr ⟨⟨l,M⟩,Pv U (i+1),λN L B=>⟨Y.length - (i+1),ao,rfl,M,B⟩,λx L y=>?_⟩;mleft;obtain⟨T,k,v,A,z,u,s⟩:=y;mright;subst z s;exact T2 af (E U i k v σ _ A (grow U i σ Q T _ u pv))
 have e:i=Y.length:=by lia
 subst e;exact .inl ⟨⟨l,bD _⟩,l,C U σ Q pv⟩
def dX(L:VM.cy):List (Key×V):=L.map λe=>(Sum.inl (e.1:Int),V.int (VM.pack e.2:Nat))
theorem GR(met:Nat):∀L:VM.cy,eU (dX L) (Sum.inl (met:Int))=(VM.k7 met L).map λv=>V.int (VM.pack v:Nat)
 |[]=>rfl
 |(k,v)::L=>by
  have Y:=GR met L;unfold eU dX at Y ⊢;rw[bM,GZ];unfold VM.k7;by_cases e:k=met
  .rw[ag e,e];cbv;simp
  rw[ae e];cbv;have:decide ((Sum.inl (k:Int):Key)=Sum.inl (met:Int))=false:=by
   apply jF;intro h;injection h with h
   lia
  simp only[this];exact Y
theorem Ov{n met:Nat}{v:List Nat}(Q:v.length=n+1):∀L:VM.cy,VM.Len n L->(L.map (·.1)).Nodup->putK (dX L) (Sum.inl (met:Int)) (V.int ((((VM.k7 met L).map VM.pack).getD 0+VM.pack v:Nat):Int))=dX (VM.md met v L)
 |[],_,_=>by simp[putK,dX,VM.md,VM.k7]
 |(k,w)::L,O,U=>by
  rw[bM,qD]at U;have N:w.length=n+1:=O (k,w) (df ..);have M:=Ov (n:=n) (met:=met) Q L (λe T=>O e (cF _ T)) U.2;unfold VM.md VM.k7;by_cases e:k=met
  .subst e;rw[ag rfl,ag rfl];cbv;unfold putK;rw[ag (by simp[dX])]
   cbv;have J:VM.pack (VM.rO w v)=VM.pack w+VM.pack v:=VM.G2 w v (by rw[N,Q])
   simp only[dX,bM,dB,iL,uC,J];congr 1;rw[cf];refine kZ λe T=>?_;have Y:¬(Sum.inl (e.1:Int):Key)=Sum.inl (k:Int):=λh=>by
    injection h with h
    exact U.1 (bS.mpr ⟨e,T,ao⟩)
   simp only[Function.comp,ae Y]
  rw[ae e,ae e];cbv;have Y:¬(Sum.inl (k:Int):Key)=Sum.inl (met:Int):=λh=>by injection h with h;lia
  have:putK (dX ((k,w)::L)) (Sum.inl (met:Int)) (V.int ((((VM.k7 met L).map VM.pack).getD 0+VM.pack v:Nat):Int))=(Sum.inl (k:Int),V.int (VM.pack w:Nat))::putK (dX L) (Sum.inl (met:Int)) (V.int ((((VM.k7 met L).map VM.pack).getD 0+VM.pack v:Nat):Int)):=by
   unfold putK dX;simp only[bM,vk,jF Y,Np,ae Y,rQ];split<;>rfl
  rw[this,M];rfl
theorem IU:∀(n:Nat) (l:List Nat),l.Nodup->(∀x∈l,x<n)->l.length<=n
 |0,l,_,h=>by
  cases l with
  |nil=>exact bD _
  |cons x l=>exact absurd (h x (df ..)) ao
 |n+1,l,T,h=>by
  by_cases c:n∈l
  .have:=IU n (l.erase n) (T.erase n) λx U=>by
    have Y:=(T.mem_erase_iff).mp U;have:=h x Y.2;have:=Y.1;lia
   rw[List.length_erase_of_mem c]at this;lia
  have:=IU n l T λx U=>by
   have:=h x U;have:x≠n:=λe=>c (e▸U);lia
  lia
def iH(L:VM.cy):Prop:=∀e∈L,e.1<16
theorem iH.len{L:VM.cy}(h:iH L)(Y:(L.map (·.1)).Nodup):L.length<sizeLine:=by
 have:=IU 16 (L.map (·.1)) Y λx U=>by obtain⟨e,T,rfl⟩:=bS.mp U;exact h e T
 rw[bG]at this;exact d8 this aG
theorem iH.add{L:VM.cy}{met:Nat}{v:List Nat}(h:iH L)(T:met<16):iH (VM.iu met v L):=by
 unfold VM.iu;split
 .exact h
 have Q:=VM.Cs met v L;intro e O;have:e.1∈(VM.md met v L).map (·.1):=bS.mpr ⟨e,O,rfl⟩;rw[Q]at this;split at this
 .obtain⟨U,Y,q⟩:=bS.mp this;rw[<-q];exact h U Y
 rcases lV.mp this with q|q
 .obtain⟨U,Y,q⟩:=bS.mp q;rw[<-q];exact h U Y
 rw[oK.mp q];exact T
def Ei:Sp:=λvs H Q _=>X5 λ(a:Addr) (met n:Nat) (v:List Nat) (L:VM.cy)=>Y7 (vs=[.ref a,.int met,.int (VM.pack v:Nat)]) (H a=some (.dK (dX L))) (VM.Len n L) (v.length=n+1) ((L.map (·.1)).Nodup) (L.length<sizeLine) (∀Y,xB a H Y->Y a=some (.dK (dX (VM.iu met v L)))->Q .aX Y)
theorem qM(T:Txt K mg t):aM P w K mg base bX 2 t.Eb t.vG ["tallies","met","ahead"] (Ei):=by
 refine T.j5.ok PV (λvs H Q E h=>?_) (λN A U s H vs Q E hr h=>?_)
 .mleft;obtain⟨a,met,n,v,L,rfl,_⟩:=h;mright;rfl
 mleft;obtain⟨a,met,n,v,L,rfl,Y,M,J,I,hz,k⟩:=h;mright;have O:=sk hr;refine⟨_,ak (bZ (fS (pv 2) (λ_=>rfl)) (ak (Ez O (pv 0) (pv 1) (bh dq (O3 O (pv 0) (pv 1) (ax) ⟨rfl,rfl,rfl,rfl⟩) (pv 2)) rfl)) bp),?_⟩;cbv;refine⟨_,rfl,?_⟩;by_cases c:VM.pack v=0
 .rw[ae (by rw[c];decide)]
  cbv;refine k H (λ_ _=>rfl) ?_;rw[Y,show VM.iu met v L=L by unfold VM.iu;rw[ag c]]
 rw[ag (by simp;lia)]
 cbv;try unfold Tr Jv
 cbv;refine⟨.inl ⟨_,.inl Y⟩,_,oz.k (k:=.inl (met:Int)) Y,?_⟩;rw[GR];refine gC.mpr ⟨((((VM.k7 met L).map VM.pack).getD 0:Nat):Int),by cases VM.k7 met L<;>rfl,_,mE.k (k:=.inl (met:Int)) Y (by unfold dX;rw[bG];exact hz),?_⟩
 refine k _ (λb n=>aj n) ?_;rw[af];have:=Ov (met:=met) J L M I;rw[vQ]at this;rw[this,show VM.iu met v L=VM.md met v L by unfold VM.iu;rw[ae c]]
theorem IY{H:Hp}{Q:VK}{E:L2.XK}{os:List VM.Off}{a:Addr}{met:Nat}{v:List Nat}{L:VM.cy}(T:H a=some (.dK (dX L)))(O:VM.Len os.length L)(N:v.length=os.length+1)(U:(L.map (·.1)).Nodup)(M:iH L)
  (k:∀Y,xB a H Y->Y a=some (.dK (dX (VM.iu met v L)))->Q .aX Y):Ei [.ref a,.int met,.int (VM.pack v:Nat)] H Q E:=⟨a,met,_,v,L,rfl,T,O,N,U,M.len U,k⟩
abbrev J8(Y U T Q O:V):List (Str×V):=[("last",Y),("may_join",U),("fitting",T),("fitting_ends",Q),("fitting_within",O)]
def gI(F:Nat->List Bool):List V:=[.int 0,.int (VM.maskOf (F 1):Nat),.int (VM.maskOf (F 2):Nat),.int (VM.maskOf (F 3):Nat)]
theorem Hf{F:Nat->List Bool}{m:Nat}(Y:1<=m)(U:m<=3):Fj (gI F) (m:Int)=some (.int (VM.maskOf (F m):Nat)):=by
 refine bE ?_;obtain rfl|rfl|rfl:m=1\/m=2\/m=3:=by lia
 all_goals rfl
def rV(t:Ad)(H:Hp)(v:V)(os:List VM.Off):Prop:=X5 λx Q Y U T=>Y5 (v=.ref x) (H x=some (.ins t.iF Q (J8 (.int ((20*os.length:Nat):Int)) (.int (VM.maskOf (VM.bN os):Nat)) (.ref Y) (.ref U) (.ref T)))) (H Y=some (.lst (gI (VM.fits os)))) (H U=some (.lst (gI (VM.iq os)))) (H T=some (.lst (gI (VM.gK os))))
theorem rV.same{H Y:Hp}{v:V}{os:List VM.Off}(s:aw H Y)(h:rV t H v os):rV t Y v os:=by
 mleft;obtain⟨x,U,T,Q,O,e,N,M,L,J⟩:=h;mright;exact⟨x,U,T,Q,O,e,s _ _ N,s _ _ M,s _ _ L,s _ _ J⟩
theorem xB.same{a:Addr}{H H1 H2:Hp}(s:aw H H1)(b:xB a H1 H2)(h:H a=none):aw H H2:=Zv.but s b h
structure WY(os:List VM.Off):Prop where
 lS:os.length<=24
 m6:VM.iK (VM.bN os) os.length<=6
theorem UT{H:Hp}{Q:VK}{E:L2.XK}{ts Y:List Bool}{v:List Nat}(U:VM.Small v)(T:v.length=ts.length+1)(O:ts.length<=24)(N:VM.tm Y (VM.ik ts v))(M:Y.length<=24)(k:Q (.int (VM.pack (VM.joined Y (VM.ik ts v)):Nat)) H) :
  yT [.int (Builtin.bitAnd (VM.pack v:Int) (VM.maskOf ts:Int)*2 ^ (20:Int).toNat),.int (VM.maskOf Y:Nat)] H Q E:=by
 rw[(zM U T O).1];exact⟨Y,_,rfl,M,N,k⟩
def KQ(t:Ad):Sp:=λvs H Q _=>X7 λ(d:Addr) (U:V) (m g c:Nat) (os:List VM.Off) (L:VM.cy)=>YB (vs=[.ref d,U,.int m,.int g]) (H d=some (.dK (dX L))) (rV t H U os) (WY os) (1<=m) (m<=3) (c*64<1048576) (VM.fW os c L) (iH L) (∀r Y,H r=none->aw H Y->Y r=some (.dK (dX (VM.xh os m g L)))->Q (.ref r) Y)
theorem Vd{os:List VM.Off}{m g:Nat}{acc:VM.cy}{e:Nat×List Nat}(Y:VM.Len os.length acc)(T:e.2.length=os.length+1):VM.Len os.length (VM.eI os m g acc e):=by
 have j:∀ts:List Bool,ts.length=os.length->(VM.joined (VM.bN os) (VM.ik ts e.2)).length=os.length+1:=λts U=>(VM.wD U T (λ_=>0)).2;unfold VM.eI;split
 .exact VM.dQ (j _ (by simp[VM.fits])) Y
 split
 .exact VM.dQ (j _ (by simp[VM.iq])) (VM.dQ (j _ (by simp[VM.gK])) Y)
 exact VM.dQ (j _ (by simp[VM.gK])) Y
theorem acV{a b:Nat}(Y:a<16)(U:b<16):a ||| b<16:=Nat.or_lt_two_pow (n:=4) Y U
theorem L9{os:List VM.Off}{m g:Nat}{acc:VM.cy}{e:Nat×List Nat}(U:iH acc)(Y:e.1<16):iH (VM.eI os m g acc e):=by
 unfold VM.eI;split
 .exact U.add Y
 split
 .rename_i h;exact(U.add Y).add (acV Y h)
 exact U.add Y
theorem J6(T:Txt K mg t):aM P w K mg base bX 4 t.xM t.rT ["tallies","lanes","member","gain"] (KQ t):=by
 refine T.rK.ok ia (λvs H Q E h=>?_) (λap A ab s H vs Q E hr h=>?_)
 .mleft;obtain⟨d,lv,m,g,c,os,L,rfl,_⟩:=h;mright;rfl
 mleft;obtain⟨d,lv,m,g,c,os,L,rfl,hd,⟨x,dx,f1,f2,f3,rfl,j,l2,C,l4⟩,ok,B,z,hc,U,hK,k⟩:=h;mright;refine⟨_,ah (aH (i:=4) ia.nd rfl aI (rq))
  (ah (yO (cz cO rfl (Gu (pv 0)) (zB rfl (bu (aE (i:=5) ia.nd rfl aI) (bu (aE (i:=6) ia.nd rfl aI) d9))) (ah (bZ (aW fq (pv 3) (ax) (aR _)) (ah (b8 (aB (qM T) aN ay T.pK T.j5.kp (pY T) .nil aC (aa (pv 4) (aa (pv 5) (aa (aB (m4 T) aN ay T.mF T.hR.kp (mH T) .nil aC (aa (bh vb (bh vC (pv 6) (aS mN (aF T.eF T.iw (pv 1)) (pv 2) (λ_ _=>rfl))) (cH ay T.rm)) (aa (aF T.eF T.gQ (pv 1)) ai))) ai)))))
  (ak (FZ))) bp)
  (ah (aH (i:=7) ia.nd rfl aI (bh vb (bh vC (pv 6) (aS mN (aF T.eF T.m5 (pv 1)) (pv 2) (λ_ _=>rfl))) (cH ay T.rm)))
  (ah (b8 (aB (qM T) aN ay T.pK T.j5.kp (pY T) .nil aC (aa (pv 4) (aa (pv 5) (aa (aB (m4 T) aN ay T.mF T.hR.kp (mH T) .nil aC (aa (pv 7) (aa (aF T.eF T.gQ (pv 1)) ai))) ai)))))
  (ak (bZ (aW qw (pv 3) (cH ay T.xu) (aR _)) (ah (aH (i:=8) ia.nd rfl aI (bh vb (bh vC (pv 6) (aS mN (aF T.eF T.o5 (pv 1)) (pv 2) (λ_ _=>rfl))) (cH ay T.rm)))
  (ak (b8 (aB (qM T) aN ay T.pK T.j5.kp (pY T) .nil aC (aa (pv 4) (aa (bh Y0 (pv 5) (pv 3)) (aa (aB (m4 T) aN ay T.mF T.hR.kp (mH T) .nil aC (aa (pv 8) (aa (aF T.eF T.gQ (pv 1)) ai))) ai))))))) bp)))))))
  (ak (aK (pv 4)))),?_⟩
 cbv;intro r O;have nr:r≠d:=λe=>by rw[e,hd]at O;cases O
 have al:(upd H r (.dK [])) d=some (.dK (dX L)):=by rw[aj (bq nr)];exact hd
 cbv;refine Yw al (λI R q=>by cbv;exact q) (λI i σ y=>(∃v5 v6 v7 v8,σ=[some (.ref d),some (.ref x),some (.int m),some (.int g),some (.ref r),v5,v6,v7,v8])/\aw (upd H d (.cV I (.dK (dX L)))) y/\y r=some (.dK (dX ((L.take i).foldl (VM.eI os m g) [])))/\
  VM.Len os.length ((L.take i).foldl (VM.eI os m g) [])/\(((L.take i).foldl (VM.eI os m g) []).map λe:Nat×List Nat=>e.1).Nodup/\iH ((L.take i).foldl (VM.eI os m g) [])) (λI=>⟨⟨_,_,_,_,rfl⟩,?_,?_,?_,?_,?_⟩) (λI i σ y p=>p.2.1 _ _ af) (λI i σ y T o U p=>⟨p.1,p.2.1.trans (au U),(au U) _ _ p.2.2.1,p.2.2.2⟩) (λI i kk v σ y hk p=>?_) (λI σ y p=>?_)
 .intro b o q;by_cases e:b=d
  .rw[e,af]at q ⊢;exact q
  rw[aj e]at q ⊢;rw[aj (aO q O)];exact q
 .rw[aj nr,af];rfl
 .exact λe f=>by simp at f
 .exact .nil
 .exact λe f=>by simp at f
 .mleft;obtain⟨⟨v5,v6,v7,v8,rfl⟩,a,h1,h2,h3,h4⟩:=p;mright;have M:∀b o,H b=some o->(∀am,o≠.dK am)->y b=some o:=λb o q n=>a b o (by rw[aj (λe=>by rw[e,hd]at q;exact n _ (cp q).symm)];exact q)
  replace j:=M _ _ j (λ_=>by simp)
  replace l2:=M _ _ l2 (λ_=>by simp)
  replace C:=M _ _ C (λ_=>by simp)
  replace l4:=M _ _ l4 (λ_=>by simp)
  unfold dX at hk;rw[cM,lM]at hk;obtain⟨e,f,q⟩:=hk;cases q;have N:=cI f;rw[bo f,yb,ng,NL];have G:=Vd (m:=m) (g:=g) h2 (U.len e N);have D:=VM.Fp (os:=os) (m:=m) (g:=g) h3 e;have Y:=L9 (os:=os) (m:=m) (g:=g) h4 (hK e N);generalize (L.take i).foldl (VM.eI os m g) []=acc at *;have es:∀ts:List Bool,ts.length=os.length->VM.Small e.2/\VM.tm (VM.bN os) (VM.ik ts e.2):=λts u=>VM.Fm hc ok.m6 U N u;have jl:∀ts:List Bool,ts.length=os.length->(VM.joined (VM.bN os) (VM.ik ts e.2)).length=os.length+1:=λts u=>(VM.wD u (U.len e N) (λ_=>0)).2;have ml:(VM.bN os).length<=24:=by simp[VM.bN];exact ok.lS
  have f0:(upd H d (.cV I (.dK (dX L)))) r=none:=by rw[aj nr];exact O
  have lE:(VM.iq os m).length=os.length:=by simp[VM.iq]
  have l:(VM.gK os m).length=os.length:=by simp[VM.gK]
  have lF:(VM.fits os m).length=os.length:=by simp[VM.fits]
  unfold VM.eI at G D Y ⊢;cbv;by_cases g0:g=0
  .simp only[ag g0]at G D Y ⊢;rw[ag ao];cbv;refine⟨_,_,.of l2,Hf B z,?_⟩;cbv;obtain⟨z1,z2⟩:=es _ lF;refine⟨(zM z1 (by rw[lF];exact U.len e N) (by rw[lF];exact ok.lS)).2,?_⟩
   cbv;refine UT z1 (by rw[lF];exact U.len e N) (by rw[lF];exact ok.lS) z2 ml (IY h1 h2 (jl _ lF) h3 h4 λH2 bt e2=>?_)
   cbv;exact⟨⟨_,rfl⟩,bt.same a f0,e2,G,D,Y⟩
  simp only[ae g0]at G D Y ⊢;rw[ae ao];cbv;refine⟨_,_,.of l4,Hf B z,?_⟩;cbv;obtain⟨z1,z2⟩:=es _ l;refine⟨(zM z1 (by rw[l];exact U.len e N) (by rw[l];exact ok.lS)).2,?_⟩
  cbv;refine UT z1 (by rw[l];exact U.len e N) (by rw[l];exact ok.lS) z2 ml (IY h1 h2 (jl _ l) h3 h4 λH2 bt e2=>?_)
  have nx:x≠r:=λe=>by rw[e,h1]at j;cases j
  have n3:f2≠r:=λe=>by rw[e,h1]at C;cases C
  replace j:=(bt _ nx).trans j;replace C:=(bt _ n3).trans C;by_cases J:g<16
  .simp only[ag J]at G D Y ⊢;cbv;rw[ag ao];cbv;refine⟨_,_,.of C,Hf B z,?_⟩;cbv;obtain⟨z3,z4⟩:=es _ lE;refine⟨(zM z3 (by rw[lE];exact U.len e N) (by rw[lE];exact ok.lS)).2,?_⟩
   cbv;rw[DK];refine UT z3 (by rw[lE];exact U.len e N) (by rw[lE];exact ok.lS) z4 ml (IY e2 (VM.dQ (jl _ l) h2) (jl _ lE) (VM.km h3) (h4.add (hK e N)) λH3 an e3=>?_)
   cbv;simp only[ae g0,ag J];exact⟨⟨_,rfl⟩,an.same (bt.same a f0) f0,e3,G,D,Y⟩
  simp only[ae J]at G D Y ⊢;cbv;rw[ae ao];cbv;simp only[ae g0,ae J];exact⟨⟨_,rfl⟩,bt.same a f0,e2,G,D,Y⟩
 mleft;obtain⟨⟨v5,v6,v7,v8,rfl⟩,a,h1,h2,h3,h4⟩:=p;mright;cbv;refine k r _ O (Rv hd a) ?_;rw[aj nr,h1];unfold dX VM.xh;rw[bG,eG]
theorem iH.ip:∀(L acc:VM.cy),iH L->iH acc->iH (VM.cQ L acc)
 |[],_,_,h=>h
 |e::L,acc,Y,h=>iH.ip L (VM.iu e.1 e.2 acc) (λx U=>Y x (cF _ U)) (h.add (Y e (df ..)))
theorem LJ{os:List VM.Off}{m g:Nat}:∀(L acc:VM.cy),iH L->iH acc->iH (L.foldl (VM.eI os m g) acc)
 |[],_,_,h=>h
 |e::L,acc,Y,h=>LJ L _ (λx U=>Y x (cF _ U)) (L9 h (Y e (df ..)))
def e7(gs:List Nat)(row:List Nat):List (Nat×Nat):=row.zipIdx.map λx=>(x.1,gs.getD x.2 0)
def Mv(K:W.Frag)(t:Ad):Sp:=λvs H Q _=>X9 λ(d:Addr) (U T O:V) (c:Nat) (os:List VM.Off) (L:VM.cy) (ways:List Sw66.Alt) (gs:List Nat)=>Y12 (vs=[.ref d,U,T,O]) (H d=some (.dK (dX L))) (rV t H U os) (iS t H T ways) (iG H O gs) (gs.length=4) (WY os) (∀w∈ways,w.row.length<=4/\∀m∈w.row,1<=m/\m<=3) (c*64<1048576) (VM.fW os c L) (iH L) (∀r Y,H r=none->aw H Y->Y r=some (.dK (dX (ways.foldl (λa w=>VM.cQ (VM.cZ os (e7 gs w.row) L) a) [])))->Q (.ref r) Y)
theorem rP(gs row:List Nat):(e7 gs row).length=row.length:=by simp[e7]
theorem RQ{gs row:List Nat}{i m:Nat}(h:row[i]?=some m):(e7 gs row)[i]?=some (m,gs.getD i 0):=by
 unfold e7;rw[cM,Tf,h];simp
theorem sj{os:List VM.Off}:∀(row:List (Nat×Nat)) (L:VM.cy),iH L->iH (VM.cZ os row L)
 |[],_,h=>h
 |x::row,L,h=>sj row _ (LJ L [] h λ_ h=>by simp at h)
theorem yh{os:List VM.Off}{c:Nat}:∀(row:List (Nat×Nat)) {L:VM.cy},VM.fW os c L->VM.fW os c (VM.cZ os row L)
 |[],_,h=>h
 |x::row,L,h=>yh row (VM.Me aG h)
theorem Pa(os:List VM.Off)(row:List (Nat×Nat))(x:Nat×Nat)(L:VM.cy):VM.cZ os (row++[x]) L=VM.xh os x.1 x.2 (VM.cZ os row L):=by
 unfold VM.cZ;rw[yb];rfl
theorem MY(T:Txt K mg t):aM P w K mg base bX 6 t.zV t.tX ["tallies","lanes","ways","gains"] (Mv K t):=by
 refine T.tN.ok eP (λvs H Q E h=>?_) (λa3 A an s H vs Q E hr h=>?_)
 .mleft;obtain⟨d,lv,wv,gv,c,os,L,ways,gs,rfl,_⟩:=h;mright;rfl
 mleft;obtain⟨d,lv,wv,gv,c,os,L,ways,gs,rfl,hd,ap,hP,hG,a4,ok,hw,hc,M,hK,k⟩:=h;mright;mleft;obtain⟨wx,ys,rfl,ab,zw⟩:=id hP;mright;obtain⟨gx,rfl,ar⟩:=id hG;refine⟨_,ah (aH (i:=4) eP.nd rfl aI (rq))
  (ah (cz cO rfl (dc (pv 2)) (aE (i:=5) eP.nd rfl aI) (ah (aH (i:=6) eP.nd rfl aI (pv 0))
  (ah (cz cO rfl (gB ay T.c7 (aa (aF T.ph T.qg (pv 5)) ai)) (zB rfl (bu (aE (i:=7) eP.nd rfl aI) (bu (aE (i:=8) eP.nd rfl aI) d9))) (ak (aH (i:=6) eP.nd rfl aI (aB (J6 T) aN ay T.Kj T.rK.kp (K2 T) .nil aC (aa (pv 6) (aa (pv 1) (aa (pv 8) (aa (aS mN (pv 3) (pv 7) (λ_ _=>rfl)) ai))))))))
  (ak (yO (cz cO rfl (Gu (pv 6)) (zB rfl (bu (aE (i:=9) eP.nd rfl aI) (bu (aE (i:=10) eP.nd rfl aI) d9))) (ak (b8 (aB (qM T) aN ay T.pK T.j5.kp (pY T) .nil aC (aa (pv 4) (aa (pv 9) (aa (pv 10) ai))))))))))))
  (ak (aK (pv 4)))),?_⟩
 cbv;intro r U;have s0:aw H (upd H r (.dK [])):=au U;cbv;refine forL (a:=wx) (H1:=upd H r (.dK [])) (λR q=>by cbv;exact q) (.of (s0 _ _ ab)) (λi σ J=>(∃v5 v6 O N G Y,σ=[some (.ref d),some lv,some (.ref wx),some (.ref gx),some (.ref r),v5,v6,O,N,G,Y])/\aw H J/\J r=some (.dK (dX ((ways.take i).foldl (λa w=>VM.cQ (VM.cZ os (e7 gs w.row) L) a) [])))/\
  VM.Len os.length ((ways.take i).foldl (λa w=>VM.cQ (VM.cZ os (e7 gs w.row) L) a) [])/\(((ways.take i).foldl (λa w=>VM.cQ (VM.cZ os (e7 gs w.row) L) a) []).map λe:Nat×List Nat=>e.1).Nodup/\iH ((ways.take i).foldl (λa w=>VM.cQ (VM.cZ os (e7 gs w.row) L) a) []))
  ⟨⟨_,_,_,_,_,_,rfl⟩,s0,af,λe he=>by simp at he,.nil,λe he=>by simp at he⟩ (λi σ J _ p=>.of (p.2.1 _ _ ab)) (λi y σ J hy p=>?_) (λσ J p=>?_)
 .mleft;obtain⟨⟨v5,v6,O,N,G,Y,rfl⟩,I,h1,h2,h3,h4⟩:=p;mright;mleft;obtain⟨w,al,x,dx,av,rfl,g1,g2⟩:=zw.get hy;mright;have hm:=cI al;obtain⟨w4,aL⟩:=hw w hm;have nr:r≠d:=λe=>by rw[e,hd]at U;cases U
  rw[bo al,yb,ng,NL];generalize (ways.take i).foldl (λa w=>VM.cQ (VM.cZ os (e7 gs w.row) L) a) []=acc at *;replace g1:=I _ _ g1;replace g2:=I _ _ g2;cbv;refine AA (a:=av) (H1:=J) (λR q=>by cbv;exact q) (.of g2) (λj σ D=>(∃f O N,σ=[some (.ref d),some lv,some (.ref wx),some (.ref gx),some (.ref r),some (.ref x),some (.ref f),O,N,G,Y]/\D f=some (.dK (dX (VM.cZ os ((e7 gs w.row).take j) L)))/\f≠r)/\aw J D) ⟨⟨d,_,_,rfl,I _ _ hd,bq nr⟩,.refl J⟩ (λj σ D _ p=>.of (p.2 _ _ g2)) (λj σ D T o M p=>?_) (λj y σ D hy p=>?_) (λσ D p=>?_)
  .mleft;obtain⟨⟨f,O,N,e1,z,e3⟩,e4⟩:=p;mright;exact⟨⟨f,O,N,e1,au M _ _ z,e3⟩,e4.trans (au M)⟩
  .mleft;obtain⟨⟨f,O,N,rfl,z,e3⟩,C⟩:=p;mright;rw[cM,lM]at hy;obtain⟨m,l,rfl⟩:=hy;have hj:=(dE.mp l).1;obtain⟨m1,m3⟩:=aL m (cI l);have a0:gs[j]?=some (gs.getD j 0):=by
    have:j<gs.length:=by lia
    rw[dU,cu this];rfl
   cbv;refine⟨_,_,.of (C _ _ (I _ _ ar)),bE (by rw[cM,a0];rfl),?_⟩
   refine⟨f,lv,m,gs.getD j 0,c,os,_,rfl,z,ap.same (I.trans C),ok,m1,m3,hc,yh _ M,sj _ _ hK,λq B hq s3 h3=>?_⟩;cbv;refine⟨?_,λe=>?_,C.trans s3⟩
   .rw[bo (RQ l),Pa];exact h3
   rw[e,C _ _ h1]at hq;cases hq
  mleft;obtain⟨⟨f,O,N,rfl,z,e3⟩,C⟩:=p;mright;rw[bG,<-rP gs w.row,eG]at z;have tok:=yh (row:=e7 gs w.row) M;have am:=sj (os:=os) (e7 gs w.row) L hK;generalize VM.cZ os (e7 gs w.row) L=L2 at *;have a1:D r=some (.dK (dX acc)):=C _ _ h1;cbv;refine Yw (d:=f) z (λg R q=>by cbv;exact q) (λg j σ B=>(∃G Y,σ=[some (.ref d),some lv,some (.ref wx),some (.ref gx),some (.ref r),some (.ref x),some (.ref f),O,N,G,Y])/\B f=some (.cV g (.dK (dX L2)))/\(∀b o,b≠f->b≠r->D b=some o->B b=some o)/\B r=some (.dK (dX (VM.cQ (L2.take j) acc)))/\
   VM.Len os.length (VM.cQ (L2.take j) acc)/\((VM.cQ (L2.take j) acc).map λe:Nat×List Nat=>e.1).Nodup/\iH (VM.cQ (L2.take j) acc)) (λg=>⟨⟨_,_,rfl⟩,af,λb o n _ q=>by rw[aj n];exact q,by rw[aj (bq e3)];exact a1,h2,h3,h4⟩) (λg j σ B p=>p.2.1) (λg j σ B T o M p=>⟨p.1,au M _ _ p.2.1,λb u n1 n2 q=>au M _ _ (p.2.2.1 b u n1 n2 q),au M _ _ p.2.2.2.1,p.2.2.2.2⟩) (λg j kk v σ B hk p=>?_) (λg σ B p=>?_)
  .mleft;obtain⟨⟨G,Y,rfl⟩,q1,q2,q3,q4,q5,q6⟩:=p;mright;unfold dX at hk;rw[cM,lM]at hk;obtain⟨e,he,q⟩:=hk;cases q;have hm:=cI he;have ea:VM.cQ (L2.take (j+1)) acc=VM.iu e.1 e.2 (VM.cQ (L2.take j) acc):=by
    rw[bo he];unfold VM.cQ;rw[yb];rfl
   rw[ea];cbv;refine IY q3 q4 (tok.len e hm) q5 q6 λH4 bt a2=>?_;exact⟨⟨_,rfl⟩,(bt _ e3).trans q1,λb o n1 n2 q=>(bt _ n2).trans (q2 b o n1 n2 q),a2,VM.dQ (tok.len e hm) q4,VM.km q5,q6.add (am e hm)⟩
  mleft;obtain⟨⟨G,Y,rfl⟩,q1,q2,q3,q4,q5,q6⟩:=p;mright;rw[show(dX L2).length=L2.length by simp[dX],eG]at q3 q4 q5 q6
  refine⟨⟨_,_,_,_,_,_,rfl⟩,λb o q=>?_,?_,q4,q5,q6⟩
  .have nb:b≠r:=aO q U;by_cases e:b=f
   .subst e;rw[af,<-z];exact C _ _ (I _ _ q)
   rw[aj e];exact q2 b o e nb (C _ _ (I _ _ q))
  rw[aj (bq e3)];exact q3
 mleft;obtain⟨⟨v5,v6,O,N,G,Y,rfl⟩,I,h1,h2,h3,h4⟩:=p;mright;cbv;rw[zw.1,eG]at h1;exact k r J U I h1
end
section
theorem Sw(g:Nat->Nat->Nat)(p:Nat):∀(row:List Nat) (j:Nat),VM.oI g p j row=(row.zipIdx j).map λx=>(x.1,g p x.2)
 |[],_=>rfl
 |m::r,j=>by
  rw[Jk,bM,<-Sw g p r (j+1)];rfl
theorem Zy(g:Nat->Nat->Nat)(wc:Bool):∀(ps:List (List Sw66.Alt)) (p i:Nat),(VM.fR g wc p ps)[i]?=(ps[i]?).map λways=>ways.map λw=>((if wc=true then w.cost else 0),VM.oI g (p+i) 0 w.row)
 |[],_,_=>rfl
 |ways::ps,p,0=>rfl
 |ways::ps,p,i+1=>by
  show(VM.fR g wc (p+1) ps)[i]?=(ps[i]?).map _;rw[Zy g wc ps (p+1) i];rw[show p+1+i=p+(i+1)by lia]
theorem HW{M:Sw66.Metre}{wc:Bool}{i:Nat}{ways:List Sw66.Alt}(h:M.places[i]?=some ways):(VM.aT M wc)[i]?=some (ways.map λw=>((if wc=true then w.cost else 0),e7 ((VM.cutsOf M).2.getD i []) w.row)):=by
 unfold VM.aT;rw[Zy,h,iL];congr 1;refine kZ λw _=>?_;rw[Sw,wL];rfl
theorem OD(os:List VM.Off)(gm:VM.GM)(Y:List VM.dh)(L:VM.cy):VM.fG os (gm++[Y]) L=VM.jn os Y (VM.fG os gm L):=by
 unfold VM.fG;rw[yb];rfl
theorem BR(os:List VM.Off)(L:VM.cy)(gs:List Nat)(c:Sw66.Alt->Nat):∀(ways:List Sw66.Alt) (acc:VM.cy),(ways.map λw=>(c w,e7 gs w.row)).foldl (λa w=>VM.cQ (VM.cZ os w.2 L) a) acc=ways.foldl (λa w=>VM.cQ (VM.cZ os (e7 gs w.row) L) a) acc
 |[],_=>rfl
 |w::ways,acc=>BR os L gs c ways _
theorem BO{os:List VM.Off}{L:VM.cy}(h:iH L):∀(Y:List VM.dh) (acc:VM.cy),iH acc->iH (Y.foldl (λa w=>VM.cQ (VM.cZ os w.2 L) a) acc)
 |[],_,h=>h
 |w::Y,acc,U=>BO h Y _ (iH.ip _ _ (sj _ _ h) U)
theorem Fo{os:List VM.Off}:∀(gm:VM.GM) (L:VM.cy),iH L->iH (VM.fG os gm L)
 |[],_,h=>h
 |Y::gm,L,h=>Fo gm _ (BO h Y [] λ_ h=>by simp at h)
theorem Qy{k:Nat}{v:List Nat}:∀{L:VM.cy},VM.k7 k L=some v->(k,v)∈L
 |[],h=>by cases h
 |(j,w)::L,h=>by
  unfold VM.k7 at h;split at h
  .rename_i e;cases h;rw[e];exact df ..
  exact cF _ (Qy h)
theorem RI{l:Sw66.Line}(h:VM.eC l):WY (VM.aY l):=by
 refine⟨?_,VM.SX h⟩;have:=h.lS;unfold VM.aY VM.bg VM.kept;rw[bG];exact bT (GL _ _) this
def Ej(t:Ad):Sp:=λvs H Q _=>X4 λ(Y U:V) (l:Sw66.Line) (M:Sw66.Metre)=>Y5 (vs=[Y,U]) (rV t H Y (VM.aY l)) (Sw66.lineOk l=true) (cS t H U M) (∀T,aw H T->Q (.int ((Sw66.scans M l).length:Nat)) T)
theorem mB(T:Txt K mg t):aM P w K mg base bX 8 t.pA t.mw ["lanes","metre"] (Ej t):=by
 refine T.gg.ok f7 (λvs H Q E h=>?_) (λar A z s H vs Q E hr h=>?_)
 .mleft;obtain⟨lv,mv,l,M,rfl,_⟩:=h;mright;rfl
 mleft;obtain⟨lv,mv,l,M,rfl,hL,hl,u,k⟩:=h;mright;mleft;obtain⟨x,dx,f1,f2,f3,rfl,l1,l2,l3,l4⟩:=id hL;mright;mleft;obtain⟨n,mx,av,pv,gv,rfl,m,hP,hG⟩:=id u;mright;mleft;obtain⟨px,aL,rfl,p1,zp⟩:=id hP;mright;mleft;obtain⟨gx,a0,rfl,g1,zg⟩:=id hG;mright;have j:=VM.eC.of hl;have O:=VM.fz.of n;have g:=RI j;have ml:(VM.bN (VM.aY l)).length<=24:=by simp[VM.bN];exact g.lS
 obtain⟨c,b⟩:=VM.O9 (os:=VM.aY l);have hu:=sk hr;have cnt:=VM.Rm O j;have Y:=(VM.zJ O false).2;have ab:=(VM.zJ O false).1;have N:∀i,VM.fW (VM.aY l) (1*3 ^ ((VM.aT M false).take i).length) (VM.fG (VM.aY l) ((VM.aT M false).take i) [(0,VM.joined (VM.bN (VM.aY l)) (VM.e0 (VM.aY l).length))]):=λi=>(VM.AD (VM.HH O) (VM.Jx j) _ (λws h=>ab ws (Pt h)) c).2;have D:∀i,iH (VM.fG (VM.aY l) ((VM.aT M false).take i) [(0,VM.joined (VM.bN (VM.aY l)) (VM.e0 (VM.aY l).length))]):=λi=>Fo _ _ λe he=>by simp at he;rw[he];show 0<16;decide
 refine⟨_,ah (aH (i:=2) f7.nd rfl aI (ZZ (XD (ax) (aB (m4 T) aN ay T.mF T.hR.kp (mH T) .nil aC (aa (ax) (aa (aF T.eF T.gQ (pv 0)) ai))) aaz) ay ay aP aG))
  (ah (cz cO rfl (gB ay T.c7 (aa (aF T.fm T.jh (pv 1)) ai)) (zB rfl (bu (aE (i:=3) f7.nd rfl aI) (bu (aE (i:=4) f7.nd rfl aI) d9))) (ak (aH (i:=2) f7.nd rfl aI (aB (MY T) aN ay T.MZ T.tN.kp (M0 T) .nil aC (aa (pv 2) (aa (pv 0) (aa (pv 4) (aa (aS mN (aF T.fm T.mY (pv 1)) (pv 3) (λ_ _=>rfl)) ai))))))))
  (ak (aK (bh aa5 (O3 hu (pv 2) (aF T.fm T.ig (pv 1)) (ax) ⟨rfl,rfl,rfl,rfl⟩) (aF T.eF T.B0 (pv 0)))))),?_⟩
 unfold ZE Dq Dq;cbv;intro d hd;have s0:aw H (upd H d (.dK [])):=au hd;cbv;have zz:=s0 _ _ l1;cbv;refine⟨VM.bN (VM.aY l),VM.e0 (VM.aY l).length,by rw[VM.aaw];rfl,ml,b,?_⟩
 refine⟨af,[(.inl 0,_)],rfl,by show 1<=15;decide,?_⟩
 rw[fF];have s1:aw H (upd H d (.dK (j6 [] [(Sum.inl 0,V.int (VM.pack (VM.joined (VM.bN (VM.aY l)) (VM.e0 (VM.aY l).length)):Nat))]))):=au hd;cbv;refine AA (a:=px) (H1:=upd H d (.dK (j6 [] [(Sum.inl 0,V.int (VM.pack (VM.joined (VM.bN (VM.aY l)) (VM.e0 (VM.aY l).length)):Nat))]))) (λR q=>by have zz:=s1 _ _ m;cbv;exact q) (.of (s1 _ _ p1)) (λi σ L=>(∃f C B,σ=[some (.ref x),some (.ref mx),some (.ref f),C,B]/\L f=some (.dK (dX (VM.fG (VM.aY l) ((VM.aT M false).take i) [(0,VM.joined (VM.bN (VM.aY l)) (VM.e0 (VM.aY l).length))]))))/\aw H L)
  ⟨⟨d,_,_,rfl,af⟩,s1⟩ (λi σ L _ p=>.of (p.2 _ _ p1)) (λi σ L T o hT p=>?_) (λi y σ L hy p=>?_) (λσ L p=>?_)
 .mleft;obtain⟨⟨f,C,B,e1,I⟩,e3⟩:=p;mright;exact⟨⟨f,C,B,e1,au hT _ _ I⟩,e3.trans (au hT)⟩
 .mleft;obtain⟨⟨f,C,B,rfl,I⟩,U⟩:=p;mright;obtain⟨ways,G,al⟩:=zp.get hy;have hi:=(dE.mp G).1;have hm:=cI G;obtain⟨_,sh,_⟩:=VM.o4 O;have gi:(VM.cutsOf M).2[i]?=some ((VM.cutsOf M).2.getD i []):=by
   rw[dU,cu (by rw[sh.1];exact hi)]
   rfl
  obtain⟨gy,am,an⟩:=zg.get' gi;have ap:=U _ _ m;cbv;refine⟨_,_,.of (U _ _ g1),bE am,?_⟩;have ti:((VM.aT M false).take i).length=i:=by rw[iA,Y];lia
  refine⟨f,_,y,gy,_,_,_,ways,_,rfl,I,hL.same U,al.same U,an.same U,sh.2 _ (cI gi),g,λw hw=>⟨(O.alt ways hm w hw).2.1,(O.alt ways hm w hw).2.2⟩,?_,N i,D i,λr H3 a1 s3 h3=>?_⟩
  .rw[ti,UG];have:3 ^ i<=3 ^ 8:=yx aG (by have:=O.p8;lia)
   have:(3:Nat) ^ 8=6561:=by decide
   lia
  cbv;refine⟨?_,U.trans s3⟩;rw[bo (HW G),OD];unfold VM.jn;rw[BR];exact h3
 mleft;obtain⟨⟨f,C,B,rfl,I⟩,U⟩:=p;mright;rw[zp.1,<-Y,eG]at I;have pa:=N (VM.aT M false).length;rw[eG]at pa;generalize VM.fG (VM.aY l) (VM.aT M false) [(0,VM.joined (VM.bN (VM.aY l)) (VM.e0 (VM.aY l).length))]=LL at *;have ap:=U _ _ m;have a2:=U _ _ l1;cbv;try unfold Jv
 cbv;refine⟨.inl ⟨_,.inl I⟩,?_⟩;cbv;refine⟨_,oz.k (k:=.inl ((VM.cutsOf M).1:Int)) I,?_⟩;rw[GR];cbv;have nn:0<=((20*(VM.aY l).length:Nat):Int):=Kw _;rw[<-cnt]at k;cases hg:VM.k7 (VM.cutsOf M).1 LL with
 |none =>
  rw[hg]at k;exact⟨nn,by simpa using k L U⟩
 |some v =>
  rw[hg]at k;have J:=Qy hg;have hv:=pa.len _ J;have sm:VM.Small v:=(VM.Fm (ts:=VM.bN (VM.aY l)) ?_ g.m6 pa J (by simp[VM.bN])).1
  .have pl:=VM.L5 v (VM.aY l).length sm hv;refine⟨nn,?_⟩;have e:((VM.pack v:Nat):Int) / 2 ^ ((20*(VM.aY l).length:Nat):Int).toNat=((VM.pack v >>> (20*(VM.aY l).length):Nat):Int):=by
    rw[Zn,Int.natCast_ediv,nc,Int.natCast_pow];rfl
   rw[e,pl];exact k L U
  rw[Y,UG];have:3 ^ M.places.length<=3 ^ 8:=yx aG O.p8;have:(3:Nat) ^ 8=6561:=by decide
  lia
end
section
theorem bF{X:Cx}(K:W.Frag)(e:X.K=K:=by rfl):U0 X (Um K):=e▸mN
theorem bW{X:Cx}(K:W.Frag)(e:X.K=K:=by rfl):U0 X (SW K):=e▸zt
theorem mq{X:Cx}(K:W.Frag)(e:X.K=K:=by rfl):Es X (.builtin "len") (λxs H Q=>∃p ys,xs=[.ref p]/\(dn K H p ys\/uN K H p ys)/\Q (.int ys.length) H):=e▸dP
theorem inK{X:Cx}(K:W.Frag)(e:X.K=K:=by rfl):iy X (compareOp .In) (YX K false):=e▸Wy
theorem abS{X:Cx}(K:W.Frag)(e:X.K=K:=by rfl):iy X (compareOp .NotIn) (YX K true):=e▸Og
theorem bitAnd_not(a b:Nat):Builtin.bitAnd (a:Int) (Builtin.bitNot (b:Int))=(a:Int) - ((a &&& b:Nat):Int):=by
 have Y:decide ((0:Int)<=(a:Int))=true:=wQ ao;have U:decide ((0:Int)<=Builtin.bitNot (b:Int))=false:=jF (by unfold Builtin.bitNot;lia)
 have T:(Builtin.bitNot (Builtin.bitNot (b:Int))).toNat=b:=by unfold Builtin.bitNot;lia
 unfold Builtin.bitAnd;rw[Y,U];simp only[T,nc]
theorem ou{α:Type}(f g:α->Bool):∀l:List α,VM.maskOf (l.map f) &&& VM.maskOf (l.map g)=VM.maskOf (l.map λx=>f x&&g x)
 |[]=>by simp[VM.maskOf]
 |x::l=>by
  simp only[bM];show((if f x=true then 1048575 else 0)+1048576*VM.maskOf (l.map f)) &&& ((if g x=true then 1048575 else 0)+1048576*VM.maskOf (l.map g))=(if (f x&&g x)=true then 1048575 else 0)+1048576*VM.maskOf (l.map λx=>f x&&g x)
  rw[VM.L4 _ _ _ _ (by split<;>decide) (by split<;>decide),ou f g l]
  congr 1;cases f x<;>cases g x<;>rfl
theorem Lx{α:Type}(f g:α->Bool):∀l:List α,VM.maskOf (l.map λx=>f x&&g x)+VM.maskOf (l.map λx=>f x&&!g x)=VM.maskOf (l.map f)
 |[]=>rfl
 |x::l=>by
  have:=Lx f g l;simp only[bM];show((if (f x&&g x)=true then 1048575 else 0)+1048576*VM.maskOf (l.map λx=>f x&&g x))+((if (f x&&!g x)=true then 1048575 else 0)+1048576*VM.maskOf (l.map λx=>f x&&!g x))=(if f x=true then 1048575 else 0)+1048576*VM.maskOf (l.map f)
  rw[<-this];cases f x<;>cases g x<;>simp<;>lia
def d0:Sw66.Syll:=⟨0,0,false⟩
def jQ(l:Sw66.Line)(n:Nat):List Nat:=(List.range n).filter λj=>(l.getD j d0).join != 1
theorem KO{l:Sw66.Line}{j:Nat}(h:j<l.length):l[j]?=some (l.getD j d0):=by
 rw[dU,cu h];rfl
theorem Wu{l:Sw66.Line}{j:Nat}(h:j∈jQ l l.length):j<l.length:=by
 unfold jQ at h;exact Et.mp (g6.mp h).1
theorem range_getD:∀l:Sw66.Line,(List.range l.length).map (λj=>l.getD j d0)=l:=by
 intro l;refine List.ext_getElem? λi=>?_;rw[cM];by_cases h:i<l.length
 .rw[NG h,KO h];rfl
 rw[nz (by simp;lia),nz ao];rfl
theorem SE(l:Sw66.Line):(jQ l l.length).map (λj=>l.getD j d0)=VM.kept l:=by
 unfold VM.kept jQ
 conv=>rhs;rw[<-range_getD l]
 rw[ra];rfl
theorem Lr{l:Sw66.Line}(h:VM.eC l){s:Sw66.Syll}(Y:s∈VM.kept l):s.join≠1/\s.join<=2:=by
 unfold VM.kept at Y;obtain⟨U,T⟩:=g6.mp Y;exact⟨by simpa using T,(h.each s U).2.2⟩
theorem abd{l:Sw66.Line}(h:VM.eC l):VM.bN (VM.aY l)=(VM.kept l).map λs=>decide ((s.join:Int)=2):=by
 unfold VM.bN VM.aY VM.bg;rw[cf];refine kZ λs Y=>?_;obtain⟨U,T⟩:=Lr h Y;show decide (0<s.join)=_;exact decide_eq_decide.mpr ao
def Gq(m:Nat)(s:Sw66.Syll):Bool:=decide (0<(VM.du s.weight m:Int))
theorem QD{l:Sw66.Line}(h:VM.eC l){m:Nat}(T:1<=m)(Q:m<=3){s:Sw66.Syll}(Y:s∈VM.kept l):decide ((VM.b9 false s).tk.getD m 0≠0)=Gq m s:=by
 obtain⟨U,_⟩:=Lr h Y;unfold VM.b9 Gq;simp only[ae U];obtain rfl|rfl|rfl:m=1\/m=2\/m=3:=by lia
 all_goals
  simp only[ZO,List.getD_cons_zero];rw[show ∀w m,VM.jA false w m=VM.du w m from λw m=>by unfold VM.jA;simp]
  exact decide_eq_decide.mpr ao
theorem rW{l:Sw66.Line}(h:VM.eC l){m:Nat}(Y:1<=m)(U:m<=3):VM.fits (VM.aY l) m=(VM.kept l).map (Gq m):=by
 unfold VM.fits VM.aY VM.bg;rw[cf];exact kZ λs T=>QD h Y U T
theorem KS{l:Sw66.Line}(h:VM.eC l){m:Nat}(Y:1<=m)(U:m<=3):VM.iq (VM.aY l) m=(VM.kept l).map λs=>Gq m s&&s.ends:=by
 unfold VM.iq VM.aY VM.bg;rw[cf];refine kZ λs T=>?_;show(decide ((VM.b9 false s).tk.getD m 0≠0)&&_)=_;rw[QD h Y U T];rfl
theorem KP{l:Sw66.Line}(h:VM.eC l){m:Nat}(Y:1<=m)(U:m<=3):VM.gK (VM.aY l) m=(VM.kept l).map λs=>Gq m s&&!s.ends:=by
 unfold VM.gK VM.aY VM.bg;rw[cf];refine kZ λs T=>?_;show(decide ((VM.b9 false s).tk.getD m 0≠0)&&_)=_;rw[QD h Y U T];rfl
def Bv(t:Ad):Sp:=λvs H Q _=>X4 λ(p N:Addr) (M:V) (l:Sw66.Line)=>Y5 (vs=[.ref p,M]) (H p=some (.ins t.iF N [])) (Bf t H M l) (Sw66.lineOk l=true) (∀U T O Y,aq p H Y->H U=none->H T=none->H O=none->Y p=some (.ins t.iF N (J8 (.int ((20*(VM.aY l).length:Nat):Int)) (.int (VM.maskOf (VM.bN (VM.aY l)):Nat)) (.ref U) (.ref T) (.ref O)))->
  Y U=some (.lst (gI (VM.fits (VM.aY l))))->Y T=some (.lst (gI (VM.iq (VM.aY l))))->Y O=some (.lst (gI (VM.gK (VM.aY l))))->Q .aX Y)
theorem C4{K:W.Frag}{l:Sw66.Line}{g:Sw66.Syll->Bool}{tl I:TE}{N:Nat}{σ:L2.St}{H H1:Hp}{Q:VK}{kx:Addr}(U:∀R:VK,R (.ref kx) H1->tl σ H R)(C:H1 kx=some (.lst ((jQ l l.length).map iV)))(B:l.length<=24)
  (M:∀(j:Nat) s Y,l[j]?=some s->aw H1 Y->∀G:VK,(∀T,aw Y T->G (.bl (g s)) T)->I ((wipe σ [N]).set N (some (.int j))) Y G)
  (hd:∀D Y,H1 D=none->aw H1 Y->Y D=some (.lst (((VM.kept l).map g).map V.bl))->Q (.ref D) Y):vV (Az K tl) (fi N) Ts I [N] σ H Q:=by
 refine BV (a:=kx) (H1:=H1) U (.of C) (iJ ((jQ l l.length).map iV) λv=>match v with|.int i=>.bl (g (l.getD i.toNat d0))|_=>.aX) rfl (λD i x Y L E p=>?_) (λD Y L p=>?_)
 .have O:=E;rw[cM,lM]at O;obtain⟨j,A,rfl⟩:=O;have lt:=Wu (cI A);refine⟨by simp[wipe],?_⟩
  refine M j _ Y (KO lt) p.1 _ λT J=>iJ.next p E ?_ J L ?_
  .show V.bl _=V.bl (g (l.getD ((j:Nat):Int).toNat d0));rw[nc]
  rw[bG];unfold jQ;refine bT (GL _ _) ?_;rw[Ec];exact bT B aG
 refine hd D Y L p.1 ?_;rw[iJ.done p,<-SE,cf,cf,cf];congr 2
def KA(e:Int):V->V:=λv=>match v with|.int i=>.int (Builtin.bitAnd i e)|_=>.aX
theorem LC{F:Nat->List Bool}{i:Nat}{x:V}(h:(gI F)[i]?=some x):∃z,x=.int z:=by
 have:=cI h;unfold gI at this;simp only[b0,List.not_mem_nil,or_false]at this;rcases this with rfl|rfl|rfl|rfl
 all_goals exact⟨_,rfl⟩
theorem U6{l:Sw66.Line}(Y:VM.eC l):(gI (VM.fits (VM.aY l))).map (KA (VM.maskOf ((VM.kept l).map λs=>s.ends):Nat))=gI (VM.iq (VM.aY l)):=by
 unfold gI;simp only[bM,qC,KA];rw[show(0:Int)=((0:Nat):Int)from rfl,qB,qB,qB,qB];rw[rW Y aG aG,rW Y aG aG,rW Y aG aG,KS Y aG aG,KS Y aG aG,KS Y aG aG];rw[ou,ou,ou,Nat.zero_and]
theorem WL{l:Sw66.Line}(Y:VM.eC l):(gI (VM.fits (VM.aY l))).map (KA (Builtin.bitNot (VM.maskOf ((VM.kept l).map λs=>s.ends):Nat)))=gI (VM.gK (VM.aY l)):=by
 unfold gI;simp only[bM,qC,KA];rw[show(0:Int)=((0:Nat):Int)from rfl,bitAnd_not,bitAnd_not,bitAnd_not,bitAnd_not];rw[rW Y aG aG,rW Y aG aG,rW Y aG aG,KP Y aG aG,KP Y aG aG,KP Y aG aG];have e:=λm=>Lx (Gq m) (λs=>s.ends) (VM.kept l);rw[ou,ou,ou,Nat.zero_and];rw[<-e 1,<-e 2,<-e 3];simp only[List.cons.injEq,V.int.injEq,and_true];refine⟨ao,ao,ao,ao⟩
theorem ue(T:Txt K mg t):aM P w K mg base bX 4 t.AZ t.uj ["self","line"] (Bv t):=by
 refine T.BL.ok cD (λvs H Q E h=>?_) (λbn A a8 s H vs Q E hr h=>?_)
 .mleft;obtain⟨p,dx,lv,l,rfl,_⟩:=h;mright;rfl
 mleft;obtain⟨p,dx,lv,l,rfl,hp,⟨a,rfl,L⟩,aQ,k⟩:=h;mright;mleft;obtain⟨br,wa,ja,ea,h1,h2,h3,h4⟩:=id L;mright;have I:=VM.eC.of aQ;have OS:=RI I;have G:(VM.kept l).length<=24:=bT (GL _ _) I.lS;refine⟨_,ah (ka (i:=2) rfl cD.nd rfl rfl (kU rfl rfl rfl rfl) (eL ay T.dG (aa (bH (mq K) ay T.dk PySem.boot_len (aa (aF T.eA T.eQ (pv 1)) ai)) ai)) (b6 (own:=[("index",5)]) ay) (λ_ _ _ _ _=>(aE (i:=5) cD.nd rfl aI)) (λ_ _ _ _ _=>(J7 (aW Zx (aS (bF K) (aF T.eA T.eQ (pv 1)) (pv 5) (λ_ _=>rfl)) (cH ay T.Dp) (aR _)))) (λ_ _ _ _ _=>(pv 5)))
  (ah (g9 T.eF T.B0 (pv 0) (bh Oc (cH ay T.rm) (bH (mq K) ay T.dk PySem.boot_len (aa (pv 2) ai))))
  (ah (g9 T.eF T.gQ (pv 0) (aB (rH T) aN ay T.rM T.j2.kp (rg T) .nil aC (aa (iX rfl cD.nd (dc (pv 2)) (b6 (own:=[("index",5)]) ay) (λ_ _ _ _ _=>(aE (i:=5) cD.nd rfl aI)) (λ_ _ _ _ _=>cW) (λ_ _ _ _ _=>(eM fq (aS (bF K) (aF T.eA T.eQ (pv 1)) (pv 5) (λ_ _=>rfl)) (cH ay T.xQ) (aR _)))) ai)))
  (ah (aH (i:=3) cD.nd rfl aI (aB (rH T) aN ay T.rM T.j2.kp (rg T) .nil aC (aa (iX rfl cD.nd (dc (pv 2)) (b6 (own:=[("index",5)]) ay) (λ_ _ _ _ _=>(aE (i:=5) cD.nd rfl aI)) (λ_ _ _ _ _=>cW) (λ_ _ _ _ _=>(eM fq (aS (bF K) (aF T.eA T.pT (pv 1)) (pv 5) (λ_ _=>rfl)) (ax) (aR _)))) ai)))
  (ah (g9 T.eF T.iw (pv 0) (dt (aa (ax) ai)))
  (ah (cz cO rfl (C5 ay T.dG (aa (ax) (aa (bh dq (cH ay T.zh) (ax)) ai))) (aE (i:=4) cD.nd rfl aI) (ak (b8 (lI jC oj oh fJ (aF T.eF T.iw (pv 0)) (aa (aB (rH T) aN ay T.rM T.j2.kp (rg T) .nil aC (aa (iX rfl cD.nd (dc (pv 2)) (b6 (own:=[("index",5)]) ay) (λ_ _ _ _ _=>(aE (i:=5) cD.nd rfl aI)) (λ_ _ _ _ _=>cW) (λ_ _ _ _ _=>(eM iY (aB (FE T) aN ay T.FY T.sC.kp (FR T) .nil aC (aa (aS (bF K) (aF T.eA T.gJ (pv 1)) (pv 5) (λ_ _=>rfl)) (aa (pv 4) ai))) (ax) (aR _)))) ai)) ai)))))
  (ah (g9 T.eF T.o5 (pv 0) (iX rfl cD.nd (dc (aF T.eF T.iw (pv 0))) (b6 (own:=[("lanes",6)]) ay) (λ_ _ _ _ _=>(aE (i:=6) cD.nd rfl aI)) (λ_ _ _ _ _=>cW) (λ_ _ _ _ _=>(bh vC (pv 6) (pv 3)))))
  (ak (g9 T.eF T.m5 (pv 0) (iX rfl cD.nd (dc (aF T.eF T.iw (pv 0))) (b6 (own:=[("lanes",6)]) ay) (λ_ _ _ _ _=>(aE (i:=6) cD.nd rfl aI)) (λ_ _ _ _ _=>cW) (λ_ _ _ _ _=>(bh vC (pv 6) (uZ abb (pv 3))))))))))))),?_⟩
 cbv;refine Tn (n:=(l.length:Nat)) (H1:=H) (λR q=>by cbv;exact⟨_,.inl (.of h3),by simpa using q⟩) (by have:=I.lS;lia) (by have:=I.lS;lia) (λi ys _=>ys=(jQ l i).map iV) rfl (λD i Y hD hi p'=>?_) (λkx H1 aL p1=>?_)
 .mleft;obtain⟨s1,ys,a0,e⟩:=p';mright;have a9:i<l.length:=by simpa using hi
  have ab:=s1 _ _ h1;cbv;refine⟨_,_,.of (s1 _ _ h3),bE (by rw[cM,KO a9];rfl),?_⟩
  cbv;have hz:ys.length<sizeLine:=by
   rw[e,bG];unfold jQ;refine d8 (GL _ _) ?_;rw[Ec];have:=I.lS;exact d8 (show i<=24 by lia) aG
  have ks:jQ l (i+1)=jQ l i++if (l.getD i d0).join != 1 then[i]else[]:=by
   unfold jQ;rw[JD,CF,N6,T3]
  by_cases c:(l.getD i d0).join=1
  .rw[ae (by rw[c];simp)]
   exact dW.skip s1 a0 (by rw[ks,c,e];simp)
  rw[ag ao];cbv;refine dW.next hD s1 a0 hz ?_;rw[ks,e,ag (by simpa using c),jK]
  rfl
 mleft;obtain⟨s1,ys,a1,e⟩:=p1;mright;rw[nc]at e;subst e;have na:a≠p:=λe=>by rw[e,hp]at h1;simp[CW]at h1
 have nj:ja≠p:=λe=>by rw[e,hp]at h3;cases h3
 have ba:wa≠p:=λe=>by rw[e,hp]at h2;cases h2
 have ne:ea≠p:=λe=>by rw[e,hp]at h4;cases h4
 have nk:kx≠p:=λe=>by rw[e,hp]at aL;cases aL
 have kl:((jQ l l.length).map iV).length=(VM.aY l).length:=by
  unfold VM.aY VM.bg;rw[<-SE];simp
 cbv;refine⟨_,.inl (.of a1),.inl ⟨aG,aG⟩,_,_,s1 _ _ hp,aG,?_⟩;rw[kl];cbv;obtain⟨H2,C⟩:∃H2,H2=upd H1 p (.ins t.iF dx [("last",.int (20*((VM.aY l).length:Int)))]):=⟨_,rfl⟩;rw[<-C];have a2:=lr C p;rw[af]at a2;have x2:aq p H H2:=by rw[C];exact(aq.of s1).trans aq.upd
 have al:=lr C kx;rw[aj nk,a1]at al;clear C;refine C4 (l:=l) (g:=λs=>decide ((s.join:Int)=2)) (H1:=H2) (kx:=kx) (λR q=>by cbv;exact q) al I.lS (λj s Y hj f Qq kq=>?_) (λD H3 hD s3 bb=>?_)
 .have ab:=f _ _ (x2 _ _ na h1);cbv;refine⟨_,_,.of (f _ _ (x2 _ _ nj h3)),bE (by rw[cM,hj];rfl),?_⟩
  cbv;exact kq Y (.refl _)
 refine⟨D,_,rfl,.of bb,by simpa using G,λH4 s4=>?_⟩
 rw[<-abd I];cbv;have am:=s3.trans s4;refine⟨_,_,am _ _ a2,by show 1<1000;decide,?_⟩
 cbv;obtain⟨H5,B⟩:∃H5,H5=upd H4 p (.ins t.iF dx [("last",.int (20*((VM.aY l).length:Int))),("may_join",.int (VM.maskOf (VM.bN (VM.aY l)):Nat))]):=⟨_,rfl⟩;rw[<-B];have an:=lr B p;rw[af]at an;have x5:aq p H H5:=by rw[B];exact(x2.same am).trans aq.upd
 have u:=lr B kx;rw[aj nk,am _ _ al]at u;clear B;refine C4 (l:=l) (g:=λs=>s.ends) (H1:=H5) (kx:=kx) (λR q=>by cbv;exact q) u I.lS (λj s Y hj f Qq kq=>?_) (λD2 H6 bv s6 bc=>?_)
 .have ab:=f _ _ (x5 _ _ na h1);cbv;refine⟨_,_,.of (f _ _ (x5 _ _ ne h4)),bE (by rw[cM,hj];rfl),?_⟩
  cbv;rw[TZ];exact kq Y (.refl _)
 refine⟨D2,_,rfl,.of bc,by simpa using G,λH7 s7=>?_⟩
 cbv;refine⟨aG,λf1 r=>?_⟩;have O:=s6.trans s7;have s8:aw H7 (upd H7 f1 (.lst [.int 0])):=au r;refine⟨_,_,s8 _ _ (O _ _ an),by show 2<1000;decide,?_⟩
 cbv;obtain⟨H8,N⟩:∃H8,H8=upd (upd H7 f1 (.lst [.int 0])) p (.ins t.iF dx [("last",.int (20*((VM.aY l).length:Int))),("may_join",.int (VM.maskOf (VM.bN (VM.aY l)):Nat)),("fitting",.ref f1)]):=⟨_,rfl⟩;rw[<-N];have M:H f1=none:=(x5.same O).free (by rw[O _ _ an];exact Zh _) r
 have y:f1≠p:=λe=>by rw[e,hp]at M;cases M
 have ap:=lr N p;rw[af]at ap;have x8:aq p H H8:=by rw[N];exact(x5.same (O.trans s8)).trans aq.upd
 have a3:=lr N kx;rw[aj nk,s8 _ _ (O _ _ u)]at a3;have bd:H8 f1=some (.lst [.int 0]):=by rw[N,aj y,af]
 clear N;have be:kx≠f1:=λe=>by rw[<-e,O _ _ u]at r;cases r
 refine Uv (m:=1) (n:=4) (H1:=H8) (λR q=>by cbv;exact q) aG (λi σ Y=>(∃v4 v5 v6,σ=[some (.ref p),some (.ref a),some (.ref kx),some (.int (VM.maskOf ((VM.kept l).map λs=>s.ends):Nat)),v4,v5,v6])/\(∀b o,b≠f1->H8 b=some o->Y b=some o)/\Y f1=some (.lst ((gI (VM.fits (VM.aY l))).take (i+1))))
  ⟨⟨_,_,_,rfl⟩,λ_ _ _ h=>h,bd⟩ (λi σ Y hi p'=>?_) (λσ Y p'=>?_)
 .mleft;obtain⟨⟨v4,v5,v6,rfl⟩,d,b2⟩:=p';mright;have bx:i<3:=by simpa using hi
  have o8:∀b o,b≠p->H b=some o->Y b=some o:=λb o n q=>d b o (aO q M) (x8 b o n q);have b3:=d _ _ (bq y) ap;cbv;refine⟨sN b2,?_⟩;refine C4 (l:=l) (g:=Gq (i+1)) (H1:=Y) (kx:=kx) (λR q=>by cbv;exact q) (d _ _ be a3) I.lS (λj s bi hj f Qq kq=>?_) (λD3 H9 ca s9 bl=>?_)
  .have ab:=f _ _ (o8 _ _ na h1);cbv;refine⟨_,_,.of (f _ _ (o8 _ _ ba h2)),bE (by rw[cM,hj];rfl),?_⟩
   cbv;refine⟨s.weight,i+1,by rw[show(1:Int)+i=((i+1:Nat):Int)by lia],?_⟩
   cbv;exact kq bi (.refl _)
  refine⟨D3,_,rfl,.of bl,by simpa using G,λcb a4=>?_⟩
  rw[<-rW I ao ao];have b4:=(s9.trans a4) _ _ b2;refine iW b4 ?_ λcc bt bm=>?_
  .refine d8 ?_ (show 4<sizeLine by decide)
   rw[iA];exact Ng _ _
  cbv;refine⟨⟨_,rfl⟩,λb o n q=>(bt b n).trans ((s9.trans a4) _ _ (d b o n q)),?_⟩;rw[bm];obtain rfl|rfl|rfl:i=0\/i=1\/i=2:=by lia
  all_goals rfl
 mleft;obtain⟨⟨v4,v5,v6,rfl⟩,d,b2⟩:=p';mright;have b2:Y f1=some (.lst (gI (VM.fits (VM.aY l)))):=b2;have b3:=d _ _ (bq y) ap;cbv;have a5:∀b,Y b=none->b≠p->H b=none:=λb q n=>by
  cases z:H b with
  |none=>rfl
  |some o=>rw[d b o (aO z M) (x8 b o n z)]at q;cases q
 have a6:∀F,(gI F).length<=sizeLine:=λF=>by show 4<=sizeLine;decide
 have fin:∀b o,b≠p->H b=some o->Y b=some o:=λb o n q=>d b o (aO q M) (x8 b o n q);refine BV (a:=f1) (H1:=Y) (λR q=>by cbv;exact q) (.of b2) (iJ (gI (VM.fits (VM.aY l))) (KA (VM.maskOf ((VM.kept l).map λs=>s.ends):Nat))) rfl (λf2 i x H9 U hx p9=>?_) (λf2 H9 U p9=>?_)
 .obtain⟨z,hz⟩:=LC hx;subst hz;cbv;exact iJ.next p9 hx rfl (.refl _) U (a6 _)
 have e9:=iJ.done p9;rw[U6 I]at e9;have n2:f2≠p:=λe=>by rw[e,b3]at U;cases U
 have cd:f1≠f2:=λe=>by rw[<-e,b2]at U;cases U
 refine⟨_,_,p9.1 _ _ b3,by show 3<1000;decide,?_⟩
 cbv;obtain⟨HA,J⟩:∃HA,HA=upd H9 p (.ins t.iF dx [("last",.int (20*((VM.aY l).length:Int))),("may_join",.int (VM.maskOf (VM.bN (VM.aY l)):Nat)),("fitting",.ref f1),("fitting_ends",.ref f2)]):=⟨_,rfl⟩;rw[<-J];have ar:=lr J p;rw[af]at ar;have av:=lr J f1;rw[aj y,p9.1 _ _ b2]at av;have a7:=lr J f2;rw[aj n2,e9]at a7;have xA:aq p Y HA:=by rw[J];exact(aq.of p9.1).trans aq.upd
 clear J;refine BV (a:=f1) (H1:=HA) (λR q=>by cbv;exact q) (.of av) (iJ (gI (VM.fits (VM.aY l))) (KA (Builtin.bitNot (VM.maskOf ((VM.kept l).map λs=>s.ends):Nat)))) rfl (λf3 i x H9 v hx p9=>?_) (λf3 HB v pB=>?_)
 .obtain⟨z,hz⟩:=LC hx;subst hz;cbv;exact iJ.next p9 hx rfl (.refl _) v (a6 _)
 have eB:=iJ.done pB;rw[WL I]at eB;have n3:f3≠p:=λe=>by rw[e,ar]at v;cases v
 refine⟨_,_,pB.1 _ _ ar,by show 4<1000;decide,?_⟩
 cbv;have bt:xB p HB (upd HB p (.ins t.iF dx (J8 (.int (20*((VM.aY l).length:Int))) (.int (VM.maskOf (VM.bN (VM.aY l)):Nat)) (.ref f1) (.ref f2) (.ref f3)))):=λb n=>aj n;have fA:∀b,HA b=none->b≠p->Y b=none:=λb q n=>by
  cases z:Y b with
  |none=>rfl
  |some o=>rw[xA b o n z]at q;cases q
 refine k f1 f2 f3 _ (λb o n q=>?_) M (a5 f2 U n2) (a5 f3 (fA f3 v n3) n3) af ((bt _ y).trans (pB.1 _ _ av)) ((bt _ n2).trans (pB.1 _ _ a7)) ((bt _ n3).trans eB);rw[bt b n];exact pB.1 _ _ (xA b o n (fin b o n q))
theorem Bg{H:Hp}{Q:Addr->Hp->Prop}{E:L2.XK}{N:V}{l:Sw66.Line}(M:Bf t H N l)(ok:Sw66.lineOk l=true)
  (k:∀x U,H x=none->aw H U->rV t (nw H U) (.ref x) (VM.aY l)->Q x U):∀x Y,H x=none->H Y=none->Y≠x->Bv t [V.ref x,N] (upd (upd H Y (.own x)) x (.ins t.iF Y [])) (λv L=>v=.aX/\Q x L) E:=by
 intro x Y O hd n;have T:aw H (upd (upd H Y (.own x)) x (.ins t.iF Y [])):=(au hd).trans (au (by rw[aj (bq n)];exact O))
 refine⟨x,Y,N,l,rfl,af,M.same T,ok,λJ I G U D C B A z y u s=>⟨rfl,k x U O (λb o q=>?_) ⟨x,Y,J,I,G,rfl,dm O z,dm (T.free C) y,dm (T.free B) u,dm (T.free A) s⟩⟩⟩;exact D b o (aO q O) (T b o q)
end
section
def IV(xs:List V)(lo st:Int):List V:=(sliceRange (sliceBounds (some lo) none (some st) xs.length).1 (sliceBounds (some lo) none (some st) xs.length).2.1 (sliceBounds (some lo) none (some st) xs.length).2.2).filterMap λx=>xs[x]?
def abm(K:W.Frag)(U:TE)(tl ts:TE):TE:=λσ H Q=>U σ H λx H1=>tl σ H1 λl T=>ts σ T λu Y=>∃a xs i j,x=.ref a/\l=.int i/\u=.int j/\dn K Y a xs/\j≠0/\(IV xs i j).length<=sizeLine/\∀p,Y p=none->Q (.ref p) (upd Y p (.lst (IV xs i j)))
theorem WG{xs:List V}{Y:List Value}(r:Vals xs Y)(U:List Nat):Vals (U.filterMap λx=>xs[x]?) (U.filterMap λx=>Y[x]?):=by
 induction U with
 |nil=>exact .nil
 |cons i U T =>
  rw[vt,vt];cases h:xs[i]? with
  |none =>
   have:Y[i]?=none:=by
    rw[Uc]at h ⊢;rw[<-r.length];exact h
   rw[this];exact T
  |some x =>
   obtain⟨u,Q,O⟩:=r.get h;rw[Q];exact .cons O T
theorem Wn{X:Cx}(K:W.Frag){e lo st:Expr}{E tl ts:TE}{O D:Pos}(B:PE X e E)(z:PE X lo tl)(N:PE X st ts)(y:X.K=K:=by rfl):PE X (.Subscript e (.Slice (some lo) none (some st) D) O) (abm K E tl ts):=by
 subst y;intro pins s σ H Q I h;refine Subscript_ (aZ (B pins s σ H _ I h) λv p ⟨x,H1,n,m,g⟩=>?_);refine wpAny_Slice ?_;rw[To];refine aZ (z pins p σ H1 _ n g) λvl f ⟨l,d,c,pl,q2⟩=>?_;rw[evalPart_none];refine bf ?_;rw[To];refine aZ (N pins f σ d _ c q2) λvs Y ⟨u,H3,I3,ps,q3⟩=>?_;mleft;obtain⟨a,xs,i,j,rfl,rfl,rfl,hx,hj,M,q⟩:=q3;mright;obtain⟨L,rfl⟩:=pl;obtain⟨J,rfl⟩:=ps;obtain rfl:v=Value.ref a:=m;have G:Inv X pins σ H3 { Y with heap:=Y.heap.push { cls:=.type "slice",data:=.fields #[.int i L,.none,.int j J] } }:=I3.kept (t':=Y.toks) λb ob q=>cA _ q
 show wpAny (model X.prog X.w) X.A (subscriptTail e (.Slice (some lo) none (some st) D) (.ref a) (.ref Y.heap.objs.size)) (EP X pins σ Q) X.xe { Y with heap:=Y.heap.push { cls:=.type "slice",data:=.fields #[.int i L,.none,.int j J] } }
 mleft;obtain⟨U,r,C,hz⟩:=G.list hx;mright;have T:=r.length;refine tail_any (ops:=[.ref a,.ref Y.heap.objs.size]) C.isList.typeIs slot_list_getitem.lookup ?_ (by with_unfolding_all rfl)
 refine wpAny_getItem_list_slice C.isList (Heap.IsSliceOf.new ..) (.int i L) .none (.int j J) (by simp[hj]) ?_ (by rw[eu]<;>lia)
 refine⟨.ref _,_,G.laid (t':=Y.toks) (o:=.lst (IV xs i j)) (λb ob q=>cA _ q) (bD _) ?_,rfl,q _ (G.aQ.fresh (bD _))⟩;have e2:slicePick U.toArray (some i) none (some j)=(((sliceRange (sliceBounds (some i) none (some j) xs.length).1 (sliceBounds (some i) none (some j) xs.length).2.1 (sliceBounds (some i) none (some j) xs.length).2.2).filterMap λx=>U[x]?)).toArray:=by
  unfold slicePick;rw[eu,<-T];simp
 exact⟨M,_,0,WG r _,by rw[e2];exact eR _ rfl⟩
end
section
theorem gk{X:Cx}{U:Pos}(K:W.Frag)(n:Nat){Y:List Expr}{k:Nat}{t:LU}(Q:X.calm=true)(h:Vy X Y t)(O:(assignEach Y X.env).length=n:=by rfl)(T:(assignEach Y X.env).findIdx? (·.1)=none:=by rfl)(e:X.K=K:=by rfl):PG X (.Tuple Y k U) (Ba K n t):=e▸zB Q h O T
theorem Qj{xs:List V}{i n:Nat}(Y:0<n)(U:i<xs.length):IV xs (i:Int) (n:Int)=VM.gW xs i n:=by
 unfold IV VM.gW sliceBounds sliceRange;simp only[uC];rw[ag (show(n:Int)>0 by lia),ag (show(n:Int)>0 by lia),ag (show(n:Int)>0 by lia),ae (show ¬(i:Int)<0 by lia)]
 cbv;rw[show max (0:Int) (min (i:Int) (xs.length:Int))=(i:Int)by lia,ag (show(i:Int)<(xs.length:Int)by lia)]
 have e:(((xs.length:Int) - (i:Int)+(n:Int) - 1) / (n:Int)).toNat=(xs.length - i+n - 1) / n:=by
  rw[show((xs.length:Int) - (i:Int)+(n:Int) - 1)=((xs.length - i+n - 1:Nat):Int)by lia,<-Int.natCast_ediv,nc]
 rw[e];congr 1
theorem Zp.pick{A:Type}{R:V->A->Prop}{ys:List V}{xs:List A}(z:Zp R ys xs):∀Y:List Nat,Zp R (Y.filterMap λj=>ys[j]?) (Y.filterMap λj=>xs[j]?)
 |[]=>Zp.nil
 |j::Y=>by
  have U:=Zp.pick z Y;rw[vt,vt];cases h:ys[j]? with
  |none =>
   have:xs[j]?=none:=by
    rw[Uc]at h ⊢;rw[<-z.1];exact h
   rw[this];exact U
  |some y =>
   obtain⟨a,O,r⟩:=z.get h;rw[O];refine⟨by simp[U.1],λk u b T Q=>?_⟩
   cases k with
   |zero=>cases T;cases Q;exact r
   |succ k=>exact U.2 k u b T Q
theorem Zp.step{A:Type}{R:V->A->Prop}{ys:List V}{xs:List A}(z:Zp R ys xs)(i n:Nat):Zp R (VM.gW ys i n) (VM.gW xs i n):=by
 unfold VM.gW;rw[z.1];exact z.pick _
def Ko(s:List Sw66.Metre)(l:Sw66.Line)(k:Nat):Bool:=match s[k]? with
 |some M=>!(Sw66.scans M l).isEmpty
 |none=>false
def Ol(t:Ad):Sp:=λvs H Q _=>X4 λ(U T:V) (l:Sw66.Line) (s:List Sw66.Metre)=>Y5 (vs=[U,T]) (lp t H U l) (aV (cS t) H T s) (s.length<=8) (∀r Y,H r=none->aw H Y->Y r=some (.lst ((Sw66.Line.by_ s l).map iV))->Q (.ref r) Y)
theorem DG(T:Txt K mg t):aM P w K mg base bX 10 t.CQ t.wG ["line","metres"] (Ol t):=by
 refine T.pQ.ok lR (λvs H Q E h=>?_) (λj A G s H vs Q E hr h=>?_)
 .mleft;obtain⟨g,f,l,s,rfl,_⟩:=h;mright;rfl
 mleft;obtain⟨g,f,l,N,rfl,C,d,h8,k⟩:=h;mright;mleft;obtain⟨b,ys,rfl,B,u⟩:=id d;mright;refine⟨_,ah (aH (i:=2) lR.nd rfl aI (d7 T.Gm (ue T) aN ay T.Ga (t8 T) .nil aC (aa (pv 0) ai)))
  (ak (aK (iX rfl lR.nd (gB ay T.c7 (aa (pv 1) ai)) (b6 (own:=[("number",3),("metre",4)]) ay) (λ_ _ _ _ _=>(gk K 2 rfl (bu (aE (i:=3) lR.nd rfl aI) (bu (aE (i:=4) lR.nd rfl aI) d9)))) (λ_ _ _ _ _=>(J7 (aW iY (aB (mB T) aN ay T.my T.gg.kp (l7 T) .nil aC (aa (pv 2) (aa (pv 4) ai))) (ax) (aR _)))) (λ_ _ _ _ _=>(pv 3))))),?_⟩
 cbv;refine Bg C.1 C.2 λx H1 hx J U=>?_;cbv;replace U:=U.same cP;refine VP (a:=b) (H1:=H1) (λR q=>by cbv;exact q) (.of (J _ _ B)) (λi ys _=>ys=((List.range i).filter (Ko N l)).map iV) (λ_ _ _ _ _ h=>h) rfl (λD i y o z hy p=>?_) (λD o z p=>?_)
 .mleft;obtain⟨O,ys,Y,e⟩:=p;mright;obtain⟨M,L,v⟩:=u.get hy;have hi:=(dE.mp L).1;cbv;refine⟨_,_,l,M,rfl,U.same O,C.2,v.same (J.trans O),λH3 I=>?_⟩;cbv;have n:(List.range (i+1)).filter (Ko N l)=(List.range i).filter (Ko N l)++if Ko N l i=true then[i]else[]:=by
   rw[JD,CF,N6,T3]
  have m:Ko N l i=!(Sw66.scans M l).isEmpty:=by unfold Ko;rw[L]
  have hz:ys.length<sizeLine:=by
   rw[e,bG];refine d8 (GL _ _) ?_;rw[Ec];exact d8 (show i<=8 by lia) aG
  cases c:Sw66.scans M l with
  |nil =>
   rw[ae aP];cbv;refine dW.skip (O.trans I) (I _ _ Y) ?_;rw[n,m,c,e];simp
  |cons a r =>
   rw[ag aP];cbv;refine dW.next z (O.trans I) (I _ _ Y) hz ?_;rw[n,m,c,e];simp;rfl
 mleft;obtain⟨O,ys,Y,e⟩:=p;mright;rw[u.1]at e;refine k D o (J.free z) (J.trans O) ?_;rw[Y,e];rfl
def mh(Y:List Sw66.Metre)(U:List Sw66.Line):List Nat:=U.zipIdx.map λx=>(Sw66.scans (Y.getD (x.2 % Y.length) ⟨[],[]⟩) x.1).length
def CV(t:Ad):Sp:=λvs H Q _=>X4 λ(O N:V) (Y:List Sw66.Metre) (U:List Sw66.Line)=>Y6 (vs=[O,N]) (aV (cS t) H O Y) (0<Y.length) (aV (lp t) H N U) (U.length<=20) (∀r T,H r=none->aw H T->T r=some (.lst ((mh Y U).map iV))->Q (.ref r) T)
theorem DW(T:Txt K mg t):aM P w K mg base bX 10 t.pU t.lN ["form","lines"] (CV t):=by
 refine T.mC.ok jd (λvs H Q E h=>?_) (λd A B s H vs Q E hr h=>?_)
 .mleft;obtain⟨c,b,Y,M,rfl,_⟩:=h;mright;rfl
 mleft;obtain⟨c,b,Y,M,rfl,hF,h0,hL,ab,k⟩:=h;mright;mleft;obtain⟨fx,al,rfl,L,n⟩:=id hF;mright;mleft;obtain⟨lx,am,rfl,z,m⟩:=id hL;mright;refine⟨_,ak (aK (iX rfl jd.nd (gB ay T.c7 (aa (pv 1) ai)) (b6 (own:=[("index",2),("line",3)]) ay) (λ_ _ _ _ _=>(gk K 2 rfl (bu (aE (i:=2) jd.nd rfl aI) (bu (aE (i:=3) jd.nd rfl aI) d9)))) (λ_ _ _ _ _=>cW) (λ_ _ _ _ _=>(aB (mB T) aN ay T.my T.gg.kp (l7 T) .nil aC (aa (d7 T.Gm (ue T) aN ay T.Ga (t8 T) .nil aC (aa (pv 3) ai)) (aa (aS (bF K) (pv 0) (bh OB (pv 2) (bH (mq K) ay T.dk PySem.boot_len (aa (pv 0) ai))) (λ_ _=>rfl)) ai)))))),?_⟩;cbv;refine VP (a:=lx) (H1:=H) (λR q=>by cbv;exact q) (.of z) (λi ys _=>ys=((mh Y M).take i).map iV) (λ_ _ _ _ _ h=>h) rfl (λD i y j v hy p=>?_) (λD j v p=>?_)
 .mleft;obtain⟨C,ys,O,e⟩:=p;mright;obtain⟨l,J,N⟩:=m.get hy;have hi:=(dE.mp J).1;cbv;refine Bg (N.1.same C) N.2 λx H1 hx g I=>?_;have U:=C.trans g;cbv;refine⟨_,.inl (.of (U _ _ L)),?_⟩;rw[n.1];refine⟨ao,?_⟩;have G:i % Y.length<Y.length:=Nat.mod_lt _ h0;have u:Y[i % Y.length]?=some (Y.getD (i % Y.length) ⟨[],[]⟩):=by rw[dU,cu G];rfl
  obtain⟨fy,r,o⟩:=n.get' u;rw[<-Uu];refine⟨_,_,.of (U _ _ L),bE r,?_⟩;refine⟨_,_,l,_,rfl,I.same cP,N.2,o.same U,λH3 f=>?_⟩;refine dW.next v (U.trans f) (f _ _ (g _ _ O)) ?_ ?_
  .rw[e];simp only[bG,iA];exact d8 (F8 _ _) (d8 (show i<=20 by lia) aG)
  have hc:(mh Y M)[i]?=some (Sw66.scans (Y.getD (i % Y.length) ⟨[],[]⟩) l).length:=by
   unfold mh;rw[cM,Tf,J];simp
  rw[bo hc,e];simp;rfl
 mleft;obtain⟨C,ys,O,e⟩:=p;mright;have:(mh Y M).length=M.length:=by simp[mh]
 rw[m.1,<-this,eG]at e;exact k D j v C (by rw[O,e])
def oV:Option Nat->V
 |some n=>.int (n:Int)
 |none=>.aX
theorem RF(n:Nat):∀xs:List Nat,Fw (iV n) (xs.map iV)=xs.contains n:=by
 intro xs;unfold Fw;rw[M9,lU,xC,SR];constructor
 .rintro⟨x,Y,e⟩;have:((x:Int)==(n:Int))=true:=e;have:x=n:=by have:=beq_iff_eq.mp this;lia
  exact this▸Y
 intro h;exact⟨n,h,by show((n:Int)==(n:Int))=true;simp⟩
theorem SG(xs:List Nat):(xs.map iV).all lA=true:=by
 rw[AH,jV];intro x _;rfl
def JH(K:W.Frag):Sp:=λvs H Q _=>X2 λ(v:V) (fs:List (List Nat))=>Y5 (vs=[v]) (aV iG H v fs) (0<fs.length) (fs.length<=20) (∀Y,aw H Y->Q (oV (VM.mJ fs)) Y)
theorem IL(T:Txt K mg t):aM P w K mg base bX 2 t.vH t.pL ["fitting"] (JH K):=by
 refine T.qu.ok lB (λvs H Q E h=>?_) (λab A C s H vs Q E hr h=>?_)
 .mleft;obtain⟨v,fs,rfl,_⟩:=h;mright;rfl
 mleft;obtain⟨v,fs,rfl,hF,h0,al,k⟩:=h;mright;mleft;obtain⟨x,ys,rfl,b,z⟩:=id hF;mright;obtain⟨Y,rest,rfl⟩:∃Y rest,fs=Y::rest:=by
  cases fs with
  |nil=>exact absurd h0 aG
  |cons a r=>exact⟨a,r,rfl⟩
 mleft;obtain⟨y0,B,a0,rfl,M⟩:=z.get' (i:=0) rfl;mright;refine⟨_,ah (cz cO rfl (dc (aS (bF K) (pv 0) (ax) (λ_ _=>rfl))) (aE (i:=1) lB.nd rfl aI) (ak (bZ (tu (bH (OC rfl) ay T.OE VS.boot_all (aa (iX rfl lB.nd (dc (pv 0)) (b6 (own:=[("numbers",2)]) ay) (λ_ _ _ _ _=>(aE (i:=2) lB.nd rfl aI)) (λ_ _ _ _ _=>cW) (λ_ _ _ _ _=>(eM (inK K) (pv 1) (pv 2) ay))) ai))) (ak (aK (pv 1))) bp)))
  (ak (aK (jc))),?_⟩
 cbv;refine forL (a:=a0) (H1:=H) (λR q=>by cbv;exact⟨_,_,.of b,bE (j:=0) B,q⟩) (.of M) (λi σ O=>(∃u o,σ=[some (.ref x),u,o])/\aw H O/\∀n∈Y.take i,((Y::rest).all λf=>f.contains n)=false) ⟨⟨_,_,rfl⟩,.refl H,by simp⟩ (λi σ O _ p=>.of (p.2.1 _ _ M)) (λi y σ O I p=>?_) (λσ O p=>?_)
 .mleft;obtain⟨⟨u,o,rfl⟩,N,L⟩:=p;mright;rw[cM,lM]at I;obtain⟨n,G,rfl⟩:=I;cbv;refine BV (a:=x) (H1:=O) (λR q=>by cbv;exact q) (.of (N _ _ b)) (λj m _=>m=(((Y::rest).take j).map λf=>f.contains n).map V.bl) rfl (λD j y H2 hD I l=>?_) (λD H2 hD l=>?_)
  .mleft;obtain⟨J,g,U,e⟩:=l;mright;mleft;obtain⟨f,hf,fx,rfl,d⟩:=z.get I;mright;have hj:=(dE.mp hf).1;cbv;refine⟨fx,_,rfl,.inl (.of (J _ _ (N _ _ d))),rfl,SG f,?_⟩;have e2:Fw (.int (n:Int)) (f.map λn=>V.int (n:Nat))=f.contains n:=RF n f;simp only[oN,gA];rw[e2];refine dW.next hD J U ?_ ?_
   .rw[e];simp only[bG,iA];exact d8 (F8 _ _) (d8 (show j<=20 by lia) aG)
   rw[e,bo hf];simp
  mleft;obtain⟨J,g,U,e⟩:=l;mright;rw[z.1,eG]at e;refine⟨D,_,rfl,.of (by rw[U,e]),?_⟩
  rw[show(((Y::rest).map λf=>f.contains n).all id)=(Y::rest).all λf=>f.contains n by rw[AH];rfl]
  cbv;cases c:(Y::rest).all λf=>f.contains n with
  |true =>
   rw[ag rfl];cbv;have:VM.mJ (Y::rest)=some n:=by
    show Y.find? _=some n;rw[List.find?_eq_some_iff_getElem];obtain⟨hi,e⟩:=dE.mp G;refine⟨c,i,hi,e,λj hj=>?_⟩;rw[L _ (List.mem_iff_getElem.mpr ⟨j,by simp;lia,by simp⟩)]
    rfl
   rw[this]at k;exact k H2 (N.trans J)
  |false =>
   rw[ae aP];exact⟨⟨_,rfl⟩,N.trans J,iR G L c⟩
 mleft;obtain⟨⟨u,o,rfl⟩,N,L⟩:=p;mright;rw[bG,eG]at L;cbv;have:VM.mJ (Y::rest)=none:=by
  show Y.find? _=none;rw[YU];intro n G;rw[L n G];simp
 rw[this]at k;exact k O N
def HQ(K:W.Frag):Sp:=λvs H Q _=>X3 λ(v:V) (fs:List (List Nat)) (n:Nat)=>Y7 (vs=[v,.int n]) (aV iG H v fs) (0<n) (n<=fs.length) (fs.length<=20) (VM.formOf fs n=none->∀Y,aw H Y->Q .aX Y) (∀f,VM.formOf fs n=some f->∀r Y,H r=none->aw H Y->Y r=some (.lst (f.map iV))->Q (.ref r) Y)
theorem OA{α:Type}{xs:List α}{i n:Nat}(Y:0<n):(VM.gW xs i n).length<=xs.length:=by
 unfold VM.gW;refine bT (Zw _ _) ?_;rw[bG,Ec];by_cases c:i<xs.length
 .have:¬xs.length<(xs.length - i+n - 1) / n:=by
   rw[VM.Bn Y c];have:xs.length<=n*xs.length:=Nat.le_mul_of_pos_left _ Y;lia
  lia
 rw[show xs.length - i+n - 1=n - 1 by lia,Nat.div_eq_of_lt ao]
 exact dy _
theorem XX:∀os:List (Option Nat),Fw .aX (os.map oV)=decide (none∈os):=by
 intro os;unfold Fw;rw[M9,lU,xC,dI];constructor
 .rintro⟨x,Y,e⟩;cases x with
  |none=>exact Y
  |some n=>exact absurd (show BC (oV (some n)) .aX=true from e) (by intro h;cases h)
 intro h;exact⟨none,h,rfl⟩
theorem JZ(T:Txt K mg t):aM P w K mg base bX 4 t.wB t.qH ["fitting","size"] (HQ K):=by
 refine T.qf.ok qJ (λvs H Q E h=>?_) (λj A L s H vs Q E hr h=>?_)
 .mleft;obtain⟨v,fs,n,rfl,_⟩:=h;mright;rfl
 mleft;obtain⟨v,fs,n,rfl,g,N,hn,J,I,G⟩:=h;mright;mleft;obtain⟨x,ys,rfl,f,z⟩:=id g;mright;refine⟨_,ah (ka (i:=2) rfl qJ.nd rfl rfl (kU rfl rfl rfl rfl) (eL ay T.dG (aa (pv 1) ai)) (b6 (own:=[("first",3)]) ay) (λ_ _ _ _ _=>(aE (i:=3) qJ.nd rfl aI)) (λ_ _ _ _ _=>cW) (λ_ _ _ _ _=>(aB (IL T) aN ay T.Jr T.qu.kp (HI T) .nil aC (aa (Wn K (pv 0) (pv 3) (pv 1)) ai))))
  (ak (aK (lY (aW (inK K) (jc) (pv 2) ay) (jc) (pv 2)))),?_⟩
 cbv;refine Tn (n:=(n:Nat)) (H1:=H) (λR q=>by cbv;exact q) ao ao (λi ys _=>ys=((List.range i).map λi=>VM.mJ (VM.gW fs i n)).map oV) rfl (λD i C B d p=>?_) (λD C B p=>?_)
 .mleft;obtain⟨O,U,Y,e⟩:=p;mright;have b:i<n:=by simpa using d
  have M:i<ys.length:=by rw[z.1];lia
  unfold abm;cbv;have m:=OA (xs:=ys) (i:=i) N;refine⟨_,.of (O _ _ f),ao,?_,λq hq=>?_⟩
  .rw[Qj N M];rw[z.1]at m;exact bT m (bT J aG)
  rw[Qj N M];have u:=au (o:=.lst (VM.gW ys i n)) hq;have l2:=OA (xs:=fs) (i:=i) N;obtain⟨r,hr⟩:=VM.L8 (n:=n) N (show i<fs.length by lia)
  refine⟨_,VM.gW fs i n,rfl,⟨q,_,rfl,af,(z.step i n).imp λy a h=>h.same (O.trans u)⟩,by rw[hr];simp,ao,λH3 l=>?_⟩
  refine dW.next B (O.trans (u.trans l)) (l _ _ (u _ _ Y)) ?_ ?_
  .rw[e];simp only[bG,Ec];exact d8 (show i<=20 by lia) aG
  rw[e,JD];simp
 mleft;obtain⟨O,U,Y,e⟩:=p;mright;rw[nc]at e;cbv;have hf:U.all lA=true:=by
  rw[e,AH,jV];intro o _;cases o<;>rfl
 refine⟨D,_,rfl,.inl (.of Y),rfl,hf,?_⟩;cbv;have en:Fw .aX U=decide (none∈VM.NN fs n):=by
  rw[e];exact XX _
 simp only[oN,gA];rw[en];unfold VM.formOf at I G;by_cases c:none∈VM.NN fs n
 .rw[ag c]at I;rw[ag (by simpa using c)]
  exact I rfl C O
 rw[ae c]at G;rw[ae (by simpa using c)]
 refine G _ rfl D C B O ?_;rw[Y,e,VM.map_some _ _ c,cf];rfl
def Hg(K:W.Frag)(t:Ad):Sp:=λvs H Q E=>X4 λ(T O:V) (Y:List Sw66.Line) (s:List Sw66.Metre)=>Y8 (vs=[T,O]) (aV (lp t) H T Y) (aV (cS t) H O s) (0<Y.length) (Y.length<=20) (s.length<=8) (Sw66.period s Y=none->Refs K t E (-6) (aw H)) (∀f,Sw66.period s Y=some f->∀r U,H r=none->aw H U->U r=some (.lst (f.map iV))->Q (.ref r) U)
theorem BB{α β:Type}{f:α->Option β}:∀{L:List α} {i:Nat} {a:α} {b:β},L[i]?=some a->f a=some b->(∀x∈L.take i,f x=none)->L.findSome? f=some b
 |[],i,a,b,h,_,_=>by simp at h
 |x::L,0,a,b,h,Y,_=>by
  cases h;rw[NX,Y]
 |x::L,i+1,a,b,h,Y,U=>by
  rw[NX,U x aP];exact BB (i:=i) h Y λy T=>U y (by simp[T])
theorem GK(T:Txt K mg t)(I:fM K t):aM P w K mg base (jB P w) 12 t.tF t.oW ["lines","metres"] (Hg K t):=by
 refine m8 T.oQ iB (λvs H Q E h=>?_) (λal A g s H vs Q E hr h=>?_)
 .mleft;obtain⟨lv,mv,Y,s,rfl,_⟩:=h;mright;rfl
 mleft;obtain⟨lv,mv,Y,C,rfl,hL,hM,h0,am,h8,kE,k⟩:=h;mright;mleft;obtain⟨lx,an,rfl,L,o⟩:=id hL;mright;rw[VM.Lv]at kE k;refine⟨_,ah (ka (i:=2) rfl iB.nd rfl rfl (kU rfl rfl rfl rfl) (dc (pv 0)) (b6 (own:=[("line",5)]) ay) (λ_ _ _ _ _=>(aE (i:=5) iB.nd rfl aI)) (λ_ _ _ _ _=>cW) (λ_ _ _ _ _=>(aB (DG T) aN ay T.Cu T.pQ.kp (Cr T) .nil aC (aa (pv 5) (aa (pv 1) ai)))))
  (ah (WB (cz cO rfl (C5 ay T.dG (aa (ax) (aa (bh dq (bH (mq K) ay T.dk PySem.boot_len (aa (pv 0) ai)) (ax)) ai))) (aE (i:=3) iB.nd rfl aI) (ak (bZ (aW fq (bh OB (bH (mq K) ay T.dk PySem.boot_len (aa (pv 0) ai)) (pv 3)) (ax) (aR _)) (ah (aH (i:=4) iB.nd rfl aI (aB (JZ T) aN ay T.Hx T.qf.kp (HY T) .nil aC (aa (pv 2) (aa (pv 3) ai))))
  (ak (bZ (aW EK (pv 4) (jc) (aR _)) (ak (aK (pv 4))) bp))) bp))))
  (ak (jx rfl fU I.OW I.in6 I.fn6 (nv T I) aN ay T.vE (nE T)))),?_⟩
 cbv;refine BV (a:=lx) (H1:=H) (λR q=>by cbv;exact q) (.of L) (λi ys A=>Zp (iG A) ys ((Y.take i).map λl=>Sw66.Line.by_ C l)) Zp.nil (λD i y j hD hy p=>?_) (λD H1 hD p=>?_)
 .mleft;obtain⟨N,B,M,e⟩:=p;mright;obtain⟨l,hl,d⟩:=o.get hy;have hi:=(dE.mp hl).1;cbv;refine⟨_,_,l,C,rfl,lp.mn _ _ _ _ N d,aV.same cS.mn N hM,h8,λr H2 O U h2=>?_⟩;refine dW.next hD (N.trans U) (U _ _ M) ?_ ?_
  .rw[e.1];simp only[bG,iA];exact d8 (F8 _ _) (d8 (show i<=20 by lia) aG)
  rw[bo hl,jK];refine(e.imp λy a h=>h.same (Bt U)).snoc ⟨r,rfl,dm ?_ h2⟩;have nr:r≠D:=λq=>by rw[q,M]at O;cases O
  rw[aj nr];exact N.free O
 mleft;obtain⟨N,B,M,z⟩:=p;mright;rw[o.1,eG]at z;have fl:(Y.map λl=>Sw66.Line.by_ C l).length=Y.length:=by simp
 have hF:aV iG H1 (.ref D) (Y.map λl=>Sw66.Line.by_ C l):=⟨D,B,rfl,M,z.imp λy a h=>h.same cP⟩;generalize (Y.map λl=>Sw66.Line.by_ C l)=v at *;cbv;have rl:(List.map (λn=>n+1) (List.range Y.length)).length=Y.length:=by simp
 refine Uv (m:=1) (n:=((Y.length:Nat):Int)+1) (H1:=H1) (λR q=>by cbv;exact⟨_,.inl (.of (N _ _ L)),by rw[o.1];exact q⟩) ao (λi σ j=>(∃b v4 v5,σ=[some (.ref lx),some mv,some (.ref D),b,v4,v5])/\aw H1 j/\∀n∈((List.range Y.length).map λn=>n+1).take i,(if Y.length % n≠0 then none else VM.formOf v n)=none)
  ⟨⟨_,_,_,rfl⟩,.refl H1,by simp⟩ (λi σ j hi p=>?_) (λσ j p=>?_)
 .mleft;obtain⟨⟨b,v4,v5,rfl⟩,U,G⟩:=p;mright;have ab:i<Y.length:=by lia
  have J:((List.range Y.length).map λn=>n+1)[i]?=some (i+1):=by rw[cM,NG ab];rfl
  cbv;refine⟨_,.inl (.of (U _ _ (N _ _ L))),?_⟩;rw[o.1,show(1:Int)+(i:Int)=((i+1:Nat):Int)by lia,<-Uu]
  refine⟨ao,?_⟩;cbv;by_cases c:Y.length % (i+1)=0
  .rw[ag ao];cbv;refine⟨_,v,i+1,rfl,aV.same iG.mn U hF,ao,ao,ao,λe H3 u=>?_,λf e r H3 O u h3=>?_⟩
   .cbv;refine⟨⟨_,rfl⟩,U.trans u,iR J G ?_⟩;rw[ae ao];exact e
   cbv;refine k f ?_ r H3 (N.free (U.free O)) ((N.trans U).trans u) h3;refine BB J ?_ G;rw[ae ao];exact e
  rw[ae ao];exact⟨⟨_,rfl⟩,U,iR J G (by rw[ag c])⟩
 mleft;obtain⟨⟨b,v4,v5,rfl⟩,U,G⟩:=p;mright;dsimp only;cbv;refine gP ⟨I.OW,I.YS⟩ ((kE ?_).imp λH3 u=>(N.trans U).trans u);rw[show(((Y.length:Nat):Int)+1 - 1).toNat=Y.length by lia,CJ (yA rl)]at G
 rw[List.findSome?_eq_none_iff];exact G
end
section
abbrev yH(Y U T Q:V):List (Str×V):=[("all_met",Y),("goal",U),("steps",T),("forks",Q)]
def qX(t:Ad):Sp:=λvs H Q _=>X7 λ(p U Y:Addr) (T:V) (g:Nat) (O:V) (ys:List V)=>Y4 (vs=[.ref p]) (H p=some (.ins t.gu U (yH T (.int g) (.ref Y) O))) (H Y=some (.lst ys)) (Q (.int ((g+1+ys.length:Nat):Int)) H)
theorem lj(T:Txt K mg t):aM P w K mg base bX 2 t.ot t.k6 ["self"] (qX t):=by
 refine T.qU.ok Ci (λvs H Q E h=>?_) (λU A Y s H vs Q E hr h=>?_)
 .mleft;obtain⟨p,O,N,M,g,L,ys,rfl,_⟩:=h;mright;rfl
 mleft;obtain⟨p,O,N,M,g,L,ys,rfl,I,J,k⟩:=h;mright;refine⟨_,ak (aK (bh dq (bh dq (aF T.bU T.dR (pv 0)) (ax)) (bH (mq K) ay T.dk PySem.boot_len (aa (aF T.bU T.jY (pv 0)) ai)))),?_⟩;cbv;refine⟨_,.inl (.of J),?_⟩;exact k
def Hi(K:W.Frag)(t:Ad):Sp:=λvs H Q _=>X9 λ(p U Y:Addr) (T:V) (g n:Nat) (O:V) (ys:List V) (y:V)=>Y6 (vs=[.ref p,.int n]) (H p=some (.ins t.gu U (yH T (.int g) (.ref Y) O))) (H Y=some (.lst ys)) (g<n) (ys[n - g - 1]?=some y) (Q y H)
theorem wm(T:Txt K mg t):aM P w K mg base bX 2 t.tG t.oP ["self","node"] (Hi K t):=by
 refine T.vX.ok GN (λvs H Q E h=>?_) (λU A Y s H vs Q E hr h=>?_)
 .mleft;obtain⟨p,O,N,M,g,n,L,ys,y,rfl,_⟩:=h;mright;rfl
 mleft;obtain⟨p,O,N,M,g,n,L,ys,y,rfl,G,J,D,I,k⟩:=h;mright;refine⟨_,ak (aK (aS (bF K) (aF T.bU T.jY (pv 0)) (bh yI (bh yI (pv 1) (aF T.bU T.dR (pv 0))) (ax)) (λ_ _=>rfl))),?_⟩;cbv;refine⟨_,_,.of J,?_,k⟩;rw[show(n:Int) - g - 1=((n - g - 1:Nat):Int)by lia]
 exact bE I
def eO(t:Ad)(H:Hp)(v:V)(s:Nat×Nat×Nat):Prop:=X2 λx Y=>v=.ref x/\H x=some (.ins t.Step Y (Jf (.int s.1) (.int s.2.1) (.int s.2.2)))
theorem eO.same{H Y:Hp}{v:V}{r:Nat×Nat×Nat}(s:aw H Y)(h:eO t H v r):eO t Y v r:=by
 mleft;obtain⟨x,U,e,h⟩:=h;mright;exact⟨x,U,e,s _ _ h⟩
theorem eO.mn:∀H Y y a,aw H Y->eO t H y a->eO t Y y a:=λ_ _ _ _ s h=>h.same s
theorem Fs(Y:Nat):∀(r:List (Nat×Nat)) (n j:Nat) (x:Nat×Nat),r[j]?=some x->(VM.cU Y n r)[j]?=some (x.1,x.2,if j+1=r.length then Y else n+j+1)
 |[],_,j,x,h=>by simp at h
 |(m,g)::r,n,0,x,h=>by
  cases h;show some (m,g,if r.isEmpty=true then Y else n+1)=_
  cases r with
  |nil=>rfl
  |cons a r=>simp
 |(m,g)::r,n,j+1,x,h=>by
  show(VM.cU Y (n+1) r)[j]?=_;rw[Fs Y r (n+1) j x h,cT];congr 3;by_cases c:j+1=r.length
  .rw[ag c,ag ao]
  rw[ae c,ae ao];cbv;lia
def F7(t:Ad):Sp:=λvs H Q _=>X12 λ(p L U O N:Addr) (J:V) (g M:Nat) (I:V) (ys:List V) (row gs:List Nat)=>Y11 (vs=[.ref p,.ref O,.ref N,.int M]) (H p=some (.ins t.gu L (yH J (.int g) (.ref U) I))) (H U=some (.lst ys)) (H O=some (.lst (row.map iV))) (H N=some (.lst (gs.map iV))) (O≠U) (N≠U) (row.length<=gs.length) (row.length<=4) (ys.length<=1000) (∀T Y,aq U H T->T U=some (.lst (ys++Y))->Zp (eO t (nw H T)) Y (VM.cU M (g+1+ys.length) (e7 gs row))->Q (.int ((if row.isEmpty=true then M else g+1+ys.length:Nat):Int)) T)
theorem G1(T:Txt K mg t):aM P w K mg base bX 4 t.tY t.oB ["self","row","gains","fork_behind"] (F7 t):=by
 refine T.vP.ok ic (λvs H Q E h=>?_) (λar A an s H vs Q E hr h=>?_)
 .mleft;obtain⟨p,dx,sa,rx,gx,al,g,J,fv,ys,row,gs,rfl,_⟩:=h;mright;rfl
 mleft;obtain⟨p,dx,sa,rx,gx,al,g,J,fv,ys,row,gs,rfl,hp,d,I,ab,n1,n2,hl,h4,hz,k⟩:=h;mright;have np:p≠sa:=λe=>by rw[e,d]at hp;cases hp
 refine⟨_,ah (aH (i:=4) ic.nd rfl aI (lY (fS (pv 1) (λ_=>rfl)) (b5 (pv 0) T.bU T.ll (lj T) aN (lh T) .nil aC) (pv 3)))
  (ah (cz cO rfl (gB ay T.c7 (aa (pv 1) ai)) (gk K 2 rfl (bu (aE (i:=5) ic.nd rfl aI) (bu (aE (i:=6) ic.nd rfl aI) d9))) (ah (aH (i:=7) ic.nd rfl aI (lY (aW fq (pv 5) (bh yI (bH (mq K) ay T.dk PySem.boot_len (aa (pv 1) ai)) (ax)) (aR _)) (pv 3) (bh dq (b5 (pv 0) T.bU T.ll (lj T) aN (lh T) .nil aC) (ax))))
  (ak (b8 (lI jC oj oh fJ (aF T.bU T.jY (pv 0)) (aa (d7 T.Z9 (QH T) aN ay T.aay (QB T) .nil aC (aa (pv 6) (aa (aS (bF K) (pv 2) (pv 5) (λ_ _=>rfl)) (aa (pv 7) ai)))) ai))))))
  (ak (aK (pv 4)))),?_⟩
 cbv;refine⟨_,.inl ⟨_,.of I,rfl⟩,?_⟩;have C:∀kk,Kt kk (Xy (kF 4) { nx:=λ_ M=>Q .aX M,rt:=Q })->∀G:Int,G=((if row.isEmpty=true then J else g+1+ys.length:Nat):Int)->wy (Nq K (w9 (kF 1) C3)) (Ba K 2 (lu (fi 5) (lu (fi 6) C6))) (Xg (Kc (tIf (T1 (yN rEq (kF 5) (yN (sQ λi j=>V.int (i - j)) (tCB (λxs H Q=>∃p,xs=[.ref p]/\∃x,(dn K H p x\/uN K H p x)/\Q (.int x.length) H) (w9 (kF 1) C3)) (tC (.int 1))))) (kF 3) (yN (sQ λi j=>V.int (i+j)) (Nn t.gu "node_count" (qX t) [] E0 (kF 0) C3) (tC (.int 1)))) (fi 7))
   (Ud (tBM K "list" Kx (Wd t.gu (kF 0) "steps") (w9 (Us t.Step (wK t) [] E0 (w9 (kF 6) (w9 (yN (Um K) (kF 2) (kF 5)) (w9 (kF 7) C3)))) C3)))) { nx:=kk,rt:=Q } [some (.ref p),some (.ref rx),some (.ref gx),some (.int J),some (.int G),none,none,none] H:=by
  intro kk av G ef;refine AA (a:=rx) (H1:=H) (λR q=>by cbv;exact q) (.of I) (λi σ M=>(∃v5 v6 v7,σ=[some (.ref p),some (.ref rx),some (.ref gx),some (.int J),some (.int G),v5,v6,v7])/\aq sa H M/\∃Y,M sa=some (.lst (ys++Y))/\Zp (eO t (nw H M)) Y ((VM.cU J (g+1+ys.length) (e7 gs row)).take i))
   ⟨⟨_,_,_,rfl⟩,aq.refl _ _,[],by simpa using d,by simpa using Zp.nil⟩ (λi σ M _ q=>.of (q.2.1 _ _ n1 I)) (λi σ M T o hT q=>?_) (λi x σ M hx q=>?_) (λσ M q=>?_)
  .mleft;obtain⟨q1,q2,Y,O,D⟩:=q;mright;exact⟨q1,q2.same (au hT),Y,au hT _ _ O,D.imp λy a h=>h.same (Bt (au hT))⟩
  .mleft;obtain⟨⟨v5,v6,v7,rfl⟩,L,Y,O,D⟩:=q;mright;rw[cM,lM]at hx;obtain⟨m,hm,rfl⟩:=hx;have hi:=(dE.mp hm).1;have am:gs[i]?=some (gs.getD i 0):=by rw[dU,cu (show i<gs.length by lia)];rfl
   have N:=Fs J (e7 gs row) (g+1+ys.length) i _ (RQ (gs:=gs) hm);rw[rP]at N;have B:Y.length=i:=by
    rw[D.1,iA,VM.i7,rP];lia
   have ap:=L _ _ np hp;cbv;refine⟨_,.inl (.of (L _ _ n1 I)),?_⟩;unfold iV;cbv;by_cases c:i+1=row.length
   .rw[ag ao];cbv;rw[ag c]at N;cbv;refine⟨sN O,_,_,.of (L _ _ n2 ab),bE (by rw[cM,am];rfl),?_⟩
    refine Md λx v H2 U n h2=>?_;have l:=n _ _ O;refine iW l ?_ λH3 f h3=>?_
    .rw[ee,B];exact d8 (show ys.length+i<=1004 by lia) aG
    have nx:x≠sa:=λe=>by rw[e,O]at U;cases U
    have fx:H x=none:=by
     cases z:H x with
     |none=>rfl
     |some o=>rw[L x o nx z]at U;cases U
    refine⟨⟨_,rfl⟩,(L.same n).trans λb o nb q=>by rw[f b nb];exact q,Y++[.ref x],by rw[h3,rD],?_⟩
    rw[bo N];refine(D.imp λy a h=>h.same ?_).snoc ⟨x,v,rfl,dm fx ?_⟩
    .exact(Bt n).trans (kn λb u hb q=>by rw[f b (λe=>by rw[e,d]at hb;cases hb)];exact q)
    rw[f x nx,h2];rfl
   rw[ae ao];cbv;rw[ae c]at N;refine⟨rfl,p,dx,sa,al,g,fv,_,rfl,ap,O,?_⟩;rw[ee,B,show((g+1+(ys.length+i):Nat):Int)=((g+1+ys.length+i:Nat):Int)by lia]
   cbv;refine⟨sN O,_,_,.of (L _ _ n2 ab),bE (by rw[cM,am];rfl),?_⟩
   refine Md λx v H2 U n h2=>?_;have l:=n _ _ O;refine iW l ?_ λH3 f h3=>?_
   .rw[ee,B];exact d8 (show ys.length+i<=1004 by lia) aG
   have nx:x≠sa:=λe=>by rw[e,O]at U;cases U
   have fx:H x=none:=by
    cases z:H x with
    |none=>rfl
    |some o=>rw[L x o nx z]at U;cases U
   refine⟨⟨_,rfl⟩,(L.same n).trans λb o nb q=>by rw[f b nb];exact q,Y++[.ref x],by rw[h3,rD],?_⟩
   rw[bo N];refine(D.imp λy a h=>h.same ?_).snoc ⟨x,v,rfl,dm fx ?_⟩
   .exact(Bt n).trans (kn λb u hb q=>by rw[f b (λe=>by rw[e,d]at hb;cases hb)];exact q)
   rw[f x nx,h2];rfl
  mleft;obtain⟨⟨v5,v6,v7,rfl⟩,L,Y,O,D⟩:=q;mright;cbv;rw[bG]at D;have e:(VM.cU J (g+1+ys.length) (e7 gs row)).take row.length=VM.cU J (g+1+ys.length) (e7 gs row):=by
   rw[CJ];rw[VM.i7,rP];exact bD _
  rw[e]at D;rw[ef];exact k M Y L O D
 cases row with
 |nil =>
  rw[ae aP];cbv;exact C _ (by assumption) J rfl
 |cons a r =>
  rw[ag aP];cbv;refine⟨rfl,p,dx,sa,al,g,fv,ys,rfl,hp,d,?_⟩;cbv;exact C _ (by assumption) ((g+1+ys.length:Nat):Int) rfl
end
section
variable{H':Hp}
section
def fO(H:Hp)(v:V)(p:Nat×Nat):Prop:=∃x,v=.ref x/\H x=some (.tup [.int p.1,.int p.2])
theorem fO.same{H:Hp}{v:V}{r:Nat×Nat}(s:aw H H')(h:fO H v r):fO H' v r:=by
 obtain⟨x,e,h⟩:=h;exact⟨x,e,s _ _ h⟩
theorem fO.mn:∀H H' y a,aw H H'->fO H y a->fO H' y a:=λ_ _ _ _ s h=>h.same s
abbrev gb:Hp->V->List (Nat×Nat)->Prop:=aV fO
theorem gb.same{H:Hp}{v:V}{a:List (Nat×Nat)}(s:aw H H')(h:gb H v a):gb H' v a:=aV.same fO.mn s h
theorem gb.mn:∀H H' y a,aw H H'->gb H y a->gb H' y a:=λ_ _ _ _ s h=>gb.same s h
theorem FD(Y U:Nat)(w:VM.dh):∀(T:List VM.dh) (st:List (Nat×Nat×Nat)),VM.cG Y U (T++[w]) st=((VM.cG Y U T st).1++[(w.1,if w.2.isEmpty=true then U else Y+1+(VM.cG Y U T st).2.length)],(VM.cG Y U T st).2++VM.cU U (Y+1+(VM.cG Y U T st).2.length) w.2)
 |[],st=>rfl
 |v::T,st=>by
  show(_::(VM.cG Y U (T++[w]) _).1,(VM.cG Y U (T++[w]) _).2)=_;rw[FD Y U w T];rfl
theorem CH(Y:Nat)(ways:List VM.dh):∀(gm:VM.GM) (p:Nat) (st:List (Nat×Nat×Nat)),VM.cY Y p (gm++[ways]) st=((VM.cY Y p gm st).1++[(VM.cG Y (p+gm.length+1) ways (VM.cY Y p gm st).2).1],(VM.cG Y (p+gm.length+1) ways (VM.cY Y p gm st).2).2)
 |[],p,st=>rfl
 |v::gm,p,st=>by
  show(_::(VM.cY Y (p+1) (gm++[ways]) _).1,(VM.cY Y (p+1) (gm++[ways]) _).2)=_;rw[CH Y ways gm (p+1),show p+1+gm.length+1=p+(v::gm).length+1 by rw[cT];lia]
  rfl
theorem Zp.append{A:Type}{R:V->A->Prop}{ys zs:List V}{xs us:List A}(z:Zp R ys xs)(h:Zp R zs us):Zp R (ys++zs) (xs++us):=by
 refine⟨by simp[z.1,h.1],λj u b Y U=>?_⟩
 by_cases c:j<ys.length
 .rw[uq c]at Y;rw[uq (by rw[<-z.1];exact c)]at U
  exact z.2 j u b Y U
 rw[oC ao]at Y;rw[oC (by rw[<-z.1];lia),<-z.1]at U
 exact h.2 _ u b Y U
theorem place_len(Y T:Nat):∀(U:List VM.dh) (st:List (Nat×Nat×Nat)),(∀w∈U,w.2.length<=4)->(VM.cG Y T U st).2.length<=st.length+4*U.length
 |[],st,_=>by simp[VM.cG]
 |w::U,st,h=>by
  have Q:=place_len Y T U (st++VM.cU T (Y+1+st.length) w.2) λv O=>h v (cF _ O);have N:=h w (df ..);rw[ee,VM.i7]at Q;show(VM.cG Y T U (st++VM.cU T (Y+1+st.length) w.2)).2.length<=_;rw[cT];lia
theorem places_len(Y:Nat):∀(gm:VM.GM) (p:Nat) (st:List (Nat×Nat×Nat)),(∀U∈gm,U.length<=3/\∀w∈U,w.2.length<=4)->(VM.cY Y p gm st).2.length<=st.length+12*gm.length
 |[],_,st,_=>by simp[VM.cY]
 |U::gm,p,st,h=>by
  have O:=places_len Y gm (p+1) (VM.cG Y (p+1) U st).2 λv T=>h v (cF _ T);obtain⟨N,Q⟩:=h U (df ..);have M:=place_len Y (p+1) U st Q;show(VM.cY Y (p+1) gm (VM.cG Y (p+1) U st).2).2.length<=_;rw[cT];lia
theorem Bc(Y T:Nat):∀(U:List VM.dh) (st:List (Nat×Nat×Nat)),(VM.cG Y T U st).1.length=U.length
 |[],_=>rfl
 |w::U,st=>by
  show(_::(VM.cG Y T U _).1).length=_;rw[cT,cT,Bc Y T U]
theorem FL(Y:Nat):∀(gm:VM.GM) (p:Nat) (st:List (Nat×Nat×Nat)),(VM.cY Y p gm st).1.length=gm.length
 |[],_,_=>rfl
 |U::gm,p,st=>by
  show(_::(VM.cY Y (p+1) gm _).1).length=_;rw[cT,cT,FL Y gm]
def BU(t:Ad):Sp:=λvs H Q _=>X5 λ(p Y:Addr) (U:V) (M:Sw66.Metre) (wc:Bool)=>Y4 (vs=[.ref p,U,.bl wc]) (H p=some (.ins t.gu Y [])) (cS t H U M) (∀T O H',aq p H H'->H' p=some (.ins t.gu Y (yH (.int ((VM.cutsOf M).1:Nat)) (.int ((VM.aT M wc).length:Nat)) T O))->aV (eO t) (nw H H') T (VM.ji (VM.cutsOf M).1 (VM.aT M wc)).steps->aV gb (nw H H') O (VM.ji (VM.cutsOf M).1 (VM.aT M wc)).wU->Q .aX H')
theorem B8(T:Txt K mg t):aM P w K mg base bX 6 t.Ao t.tH ["self","metre","with_costs"] (BU t):=by
 refine T.Bu.ok iQ (λvs H Q E h=>?_) (λd5 A cr s H vs Q E hr h=>?_)
 .mleft;obtain⟨p,dx,mv,M,wc,rfl,_⟩:=h;mright;rfl
 mleft;obtain⟨p,dx,mv,M,wc,rfl,hp,cs,k⟩:=h;mright;mleft;obtain⟨ct,mx,d6,pv,gv,rfl,m1,hP,hG⟩:=id cs;mright;mleft;obtain⟨px,ea,rfl,p1,zp⟩:=id hP;mright;mleft;obtain⟨gx,eb,rfl,g1,zg⟩:=id hG;mright;have MO:=VM.fz.of ct;have nm:mx≠p:=λe=>by rw[e,hp]at m1;simp[jN]at m1
 have bb:px≠p:=λe=>by rw[e,hp]at p1;cases p1
 have cv:gx≠p:=λe=>by rw[e,hp]at g1;cases g1
 obtain⟨cx,ap⟩:=VM.zJ MO wc;refine⟨_,ah (g9 T.bU T.kf (pv 0) (aF T.fm T.ig (pv 1)))
  (ah (g9 T.bU T.dR (pv 0) (bH (mq K) ay T.dk PySem.boot_len (aa (aF T.fm T.jh (pv 1)) ai)))
  (ah (g9 T.bU T.jY (pv 0) (dt ai))
  (ah (g9 T.bU T.j3 (pv 0) (dt ai))
  (ak (cz cO rfl (gB ay T.c7 (aa (aF T.fm T.jh (pv 1)) ai)) (gk K 2 rfl (bu (aE (i:=3) iQ.nd rfl aI) (bu (aE (i:=4) iQ.nd rfl aI) d9))) (ah (aH (i:=5) iQ.nd rfl aI (dt ai))
  (ah (cz cO rfl (dc (pv 4)) (aE (i:=6) iQ.nd rfl aI) (ah (aH (i:=7) iQ.nd rfl aI (Kg (pv 0) T.bU T.GY (G1 T) aN (GG T) .nil aC (aa (aF T.ph T.qg (pv 6)) (aa (aS (bF K) (aF T.fm T.mY (pv 1)) (pv 3) (λ_ _=>rfl)) (aa (bh dq (pv 3) (ax)) ai)))))
  (ak (b8 (lI jC oj oh fJ (pv 5) (aa (jL (aa (lY (fS (pv 2) (λ_=>rfl)) (aF T.ph T.sM (pv 6)) (ax)) (aa (pv 7) ai))) ai))))))
  (ak (b8 (lI jC oj oh fJ (aF T.bU T.j3 (pv 0)) (aa (pv 5) ai))))))))))),?_⟩
 cbv;refine⟨aG,?_⟩;cbv;refine⟨_,_,(by rw[aj nm];exact m1),?_⟩
 refine(show WQ (some _) _ from ?_);cbv;refine⟨_,.inl (.of (by rw[aj bb];exact p1)),by show 1<1000;decide,?_⟩
 cbv;refine⟨aG,λsa g=>?_⟩;cbv;rw[fF]at g ⊢;have d:sa≠p:=λe=>by rw[e,af]at g;cases g
 have a0:H sa=none:=by rw[aj d]at g;exact g
 refine⟨_,_,(by rw[aj (bq d)];exact af),by show 2<1000;decide,?_⟩
 cbv;refine⟨aG,λfa I=>?_⟩;cbv;refine⟨_,_,(by
  rw[aj (λe=>by rw[<-e,af]at I;cases I)];exact af),by show 3<1000;decide,?_⟩
 have ab:fa≠p:=λe=>by rw[e,af]at I;cases I
 have B:fa≠sa:=λe=>by rw[aj ab,e,af]at I;cases I
 have a4:H fa=none:=by rw[aj ab,aj B,aj ab]at I;exact I
 cbv;generalize am:upd _ p _=Hb;have b1:=lr am p;rw[af,zp.1,<-ap]at b1;replace b1:=b1.symm;have b2:=lr am sa;rw[aj d,aj (bq B),aj d,af]at b2;replace b2:=b2.symm;have b3:=lr am fa;rw[aj ab,af]at b3;replace b3:=b3.symm;have xb:aq p H Hb:=λb o N q=>by
  rw[<-am,aj N,aj (aO q a4),aj N,aj (aO q a0),aj N];exact q
 clear am I g;have G:∀b o,b≠p->H b=some o->b∉[sa,fa]/\Hb b=some o:=λb o N q=>by
  refine⟨λe=>?_,xb b o N q⟩;rcases b0.mp e with e|e
  .rw[e,a0]at q;cases q
  rw[oK.mp e,a4]at q;cases q
 obtain⟨om,cB⟩:=G _ _ nm m1;obtain⟨op,bc⟩:=G _ _ bb p1;obtain⟨og,cC⟩:=G _ _ cv g1;have bd:p∉[sa,fa]:=λe=>by
  rcases b0.mp e with e|e
  .exact d e.symm
  exact ab (oK.mp e).symm
 refine AA (a:=px) (H1:=Hb) (λR q=>by cbv;exact q) (.of bc) (λi σ H'=>(∃v3 v4 v5 v6 v7,σ=[some (.ref p),some (.ref mx),some (.bl wc),v3,v4,v5,v6,v7])/\sA [sa,fa] Hb H'/\(∃ys,H' sa=some (.lst ys)/\Zp (eO t (nw Hb H')) ys (VM.cY (VM.aT M wc).length 0 ((VM.aT M wc).take i) []).2)/\
  ∃zs,H' fa=some (.lst zs)/\Zp (gb (nw Hb H')) zs (VM.cY (VM.aT M wc).length 0 ((VM.aT M wc).take i) []).1)
  ⟨⟨_,_,_,_,_,rfl⟩,λ_ _ _ h=>h,⟨[],b2,Zp.nil⟩,[],b3,Zp.nil⟩ (λi σ H' _ q=>.of (q.2.1 _ _ op bc)) (λi σ H' T o C q=>?_) (λi x σ H' hx q=>?_) (λσ H' q=>?_)
 .mleft;obtain⟨q1,q2,⟨ys,q3,q4⟩,zs,q5,q6⟩:=q;mright;exact⟨q1,λb o N q=>au C _ _ (q2 b o N q),⟨ys,au C _ _ q3,q4.imp λy a h=>h.same (Bt (au C))⟩,zs,au C _ _ q5,q6.imp λy a h=>gb.same (Bt (au C)) h⟩
 .mleft;obtain⟨⟨v3,v4,v5,v6,v7,rfl⟩,so,⟨ys,q3,q4⟩,zs,q5,q6⟩:=q;mright;mleft;obtain⟨ways,a5,wx,cE,rfl,a6,zw⟩:=zp.get hx;mright;have hi:=(dE.mp a5).1;have r:=cI a5;obtain⟨_,sh,_⟩:=VM.o4 MO;have gi:(VM.cutsOf M).2[i]?=some ((VM.cutsOf M).2.getD i []):=by
   rw[dU,cu (by rw[sh.1];exact hi)]
   rfl
  mleft;obtain⟨gy,cL,c0,rfl,an⟩:=zg.get' gi;mright;have c4:=sh.2 _ (cI gi);rw[bo (HW a5),CH];have ti:((VM.aT M wc).take i).length=i:=by rw[iA,ap];lia
  rw[ti,wL];have ed:(VM.cY (VM.aT M wc).length 0 ((VM.aT M wc).take i) []).2.length<=12*i:=by
   have:=places_len (VM.aT M wc).length ((VM.aT M wc).take i) 0 [] λws c5=>?_
   .rw[ti]at this;simpa using this
   have av:=Pt c5;refine⟨cx ws av,λw hw=>?_⟩;obtain⟨j,hj⟩:=PN av;have c6:=(dE.mp hj).1;have be:M.places[j]?=some M.places[j]:=cu (by rw[<-ap];exact c6)
   rw[HW be]at hj;cases hj;obtain⟨w0,a7,rfl⟩:=bS.mp hw;show(e7 _ _).length<=4;rw[rP];exact(MO.alt _ (cI be) w0 a7).2.1
  have c8:(VM.cY (VM.aT M wc).length 0 ((VM.aT M wc).take i) []).1.length=i:=by rw[FL,ti]
  generalize VM.cY (VM.aT M wc).length 0 ((VM.aT M wc).take i) []=st at *;obtain⟨ow,bi⟩:=G _ _ (λe=>by rw[e,hp]at a6;cases a6) a6
  obtain⟨bm,bn⟩:=G _ _ (λe=>by rw[e,hp]at an;cases an) an
  cbv;refine⟨aG,λD hD=>?_⟩;have n:D≠sa:=λe=>by rw[e,q3]at hD;cases hD
  have aL:D≠fa:=λe=>by rw[e,q5]at hD;cases hD
  have sD:aw H' (upd H' D (.lst [])):=au hD;have a8:∀b,H' b=none->Hb b=none:=λb q=>by
   cases z:Hb b with
   |none=>rfl
   |some o =>
    by_cases e:b∈[sa,fa]
    .rcases b0.mp e with e|e
     .rw[e,q3]at q;cases q
     rw[oK.mp e,q5]at q;cases q
    rw[so b o e z]at q;cases q
  have up:∀b o,b∉[sa,fa]->Hb b=some o->b∉[sa,D]/\(upd H' D (.lst [])) b=some o:=λb o N q=>by
   refine⟨λe=>?_,sD _ _ (so b o N q)⟩;rcases b0.mp e with e|e
   .exact N (by simp[e])
   rw[oK.mp e,a8 D hD]at q;cases q
  obtain⟨U,L⟩:∃gw:List VM.dh,gw=ways.map λw=>((if wc=true then w.cost else 0),e7 ((VM.cutsOf M).2.getD i []) w.row):=⟨_,rfl⟩
  obtain⟨da,br⟩:=up _ _ ow bi;obtain⟨up1,bv⟩:=up _ _ bd b1;obtain⟨db,dd⟩:=up _ _ om cB;obtain⟨de,dg⟩:=up _ _ og cC;obtain⟨dp,dr⟩:=up _ _ bm bn;cbv;refine forL (a:=wx) (H1:=upd H' D (.lst [])) (λR q=>by cbv;exact q) (.of br) (λj σ f=>(∃v6 v7,σ=[some (.ref p),some (.ref mx),some (.bl wc),some (.int i),some (.ref wx),some (.ref D),v6,v7])/\sA [sa,D] (upd H' D (.lst [])) f/\
   (∃us,f D=some (.lst us)/\Zp (fO (nw (upd H' D (.lst [])) f)) us (VM.cG (VM.aT M wc).length (i+1) (U.take j) st.2).1)/\∃Y mo,f sa=some (.lst (ys++Y))/\(VM.cG (VM.aT M wc).length (i+1) (U.take j) st.2).2=st.2++mo/\Zp (eO t (nw (upd H' D (.lst [])) f)) Y mo)
   ⟨⟨_,_,rfl⟩,λ_ _ _ h=>h,⟨[],af,Zp.nil⟩,[],[],by rw[aj (bq n),iN];exact q3,by simp[VM.cG],Zp.nil⟩ (λj σ f _ q=>.of (q.2.1 _ _ da br)) (λj y σ f hy q=>?_) (λσ f q=>?_)
  .mleft;obtain⟨⟨v6,v7,rfl⟩,O,⟨us,r1,r2⟩,Y,mo,r3,r4,r5⟩:=q;mright;mleft;obtain⟨w,a9,x,ef,rx,rfl,w1,w2⟩:=zw.get hy;mright;have hj:=(dE.mp a9).1;have bx:=MO.alt ways r w (cI a9);obtain⟨ox,ds⟩:=G _ _ (λe=>by rw[e,hp]at w1;simp[M6]at w1) w1
   obtain⟨b4,dF⟩:=G _ _ (λe=>by rw[e,hp]at w2;cases w2) w2
   obtain⟨dK,dL⟩:=up _ _ ox ds;obtain⟨ca,cb⟩:=up _ _ b4 dF;have dT:U[j]?=some ((if wc=true then w.cost else 0),e7 ((VM.cutsOf M).2.getD i []) w.row):=by rw[L,cM,a9];rfl
   have al:Y.length=mo.length:=r5.1;have yl:ys.length=st.2.length:=q4.1;have cc:(U.take j).length<=3:=by
    have h3:=(MO.ways ways r).2;rw[iA,L,bG];lia
   have dV:(VM.cG (VM.aT M wc).length (i+1) (U.take j) st.2).2.length<=200:=by
    have:=place_len (VM.aT M wc).length (i+1) (U.take j) st.2 λv hv=>?_
    .have h8:=MO.p8;have h3:=(MO.ways ways r).2;have:(U.take j).length<=3:=by
      rw[iA,L,bG];lia
     lia
    have cd:=Pt hv;rw[L]at cd;obtain⟨w0,a7,rfl⟩:=bS.mp cd;show(e7 _ _).length<=4;rw[rP];exact(MO.alt ways r w0 a7).2.1
   rw[bo dT,FD];have p2:=O _ _ up1 bv;have m2:=O _ _ db dd;have x2:=O _ _ dK dL;have d1:=O _ _ ca cb;have g2:=O _ _ de dg;have d2:=O _ _ dp dr;cbv;refine⟨rfl,?_⟩;cbv;refine⟨_,_,.of g2,bE cL,?_⟩;refine⟨p,dx,sa,rx,c0,_,_,i+1,_,_,w.row,_,by rw[show(i:Int)+1=((i+1:Nat):Int)by lia],p2,r3,d1,d2,λe=>b4 (by simp[e]),λe=>bm (by simp[e]),by rw[c4];exact bx.2.1,bx.2.1,?_,λH3 ce ar h3 z3=>?_⟩
   .rw[r4,ee]at dV;rw[ee,al,yl];lia
   have lt:(ys++Y).length=(VM.cG (VM.aT M wc).length (i+1) (U.take j) st.2).2.length:=by rw[r4,ee,ee,al,yl]
   rw[lt]at z3 ⊢;cbv;have D3:=ar _ _ n r1;have x3:=ar _ _ (λe=>ox (by simp[e])) x2
   refine⟨sN D3,wc,rfl,?_⟩;have ch:(upd H' D (.lst [])) D=some (.lst []):=af;have d3:(upd H' D (.lst [])) sa=some (.lst ys):=by rw[aj (bq n)];exact q3
   have ci:∀b,f b=none->(upd H' D (.lst [])) b=none:=λb q=>by
    cases z:(upd H' D (.lst [])) b with
    |none=>rfl
    |some o =>
     by_cases e:b∈[sa,D]
     .rcases b0.mp e with e|e
      .rw[e,r3]at q;cases q
      rw[oK.mp e,r1]at q;cases q
     rw[O b o e z]at q;cases q
   have d4:∀b,H3 b=none->(upd H' D (.lst [])) b=none:=λb q=>ci b (by
    cases z:f b with
    |none=>rfl
    |some o =>
     by_cases e:b=sa
     .rw[e,h3]at q;cases q
     rw[ar b o e z]at q;cases q)
   have lq:∀(c:Nat) (T:Addr) (H4 m:Hp),H3 T=none->H4=upd H3 T (.tup [.int c,.int ((if w.row.isEmpty=true then i+1 else(VM.aT M wc).length+1+(VM.cG (VM.aT M wc).length (i+1) (U.take j) st.2).2.length:Nat):Int)])->c=(if wc=true then w.cost else 0)->xB D H4 m->m D=some (.lst (us++[.ref T]))->
     sA [sa,D] (upd H' D (.lst [])) m/\(∃us,m D=some (.lst us)/\Zp (fO (nw (upd H' D (.lst [])) m)) us ((VM.cG (VM.aT M wc).length (i+1) (U.take j) st.2).1++[((if wc=true then w.cost else 0),if (e7 ((VM.cutsOf M).2.getD i []) w.row).isEmpty=true then i+1 else(VM.aT M wc).length+1+(VM.cG (VM.aT M wc).length (i+1) (U.take j) st.2).2.length)]))/\
     ∃Y mo,m sa=some (.lst (ys++Y))/\(VM.cG (VM.aT M wc).length (i+1) (U.take j) st.2).2++VM.cU (i+1) ((VM.aT M wc).length+1+(VM.cG (VM.aT M wc).length (i+1) (U.take j) st.2).2.length) (e7 ((VM.cutsOf M).2.getD i []) w.row)=st.2++mo/\Zp (eO t (nw (upd H' D (.lst [])) m)) Y mo:=by
    intro c T H4 m C e4 ec l h5;have s4:aw H3 H4:=by rw[e4];exact au C
    have nT:T≠D:=λe=>by rw[e,D3]at C;cases C
    have cj:∀b o,b≠sa->b≠D->f b=some o->m b=some o:=λb o n1 n2 q=>by rw[l b n2];exact s4 _ _ (ar b o n1 q)
    have cl:aw (nw (upd H' D (.lst [])) f) (nw (upd H' D (.lst [])) m):=kn λb u J q=>cj b u (λe=>by rw[e,d3]at J;cases J) (λe=>by rw[e,ch]at J;cases J) q
    refine⟨λb o N q=>cj b o (λe=>N (by simp[e])) (λe=>N (by simp[e])) (O b o N q),⟨_,h5,(r2.imp λy a h=>h.same cl).snoc ⟨T,rfl,dm (d4 T C) ?_⟩⟩,Y++ce,mo++_,?_,by rw[r4,rD],(r5.imp λy a h=>h.same cl).append (z3.imp λy a h=>h.same ?_)⟩
    .rw[l T nT,e4,af,ec];have:(e7 ((VM.cutsOf M).2.getD i []) w.row).isEmpty=w.row.isEmpty:=by
      unfold e7;cases w.row<;>simp
     rw[this]
    .rw[l sa (bq n),<-rD];exact s4 _ _ h3
    exact aw.trans (fD ci) (kn λb u J q=>by
     rw[l b (λe=>by rw[e,ch]at J;cases J)]
     exact s4 _ _ q)
   by_cases cw:wc=true
   .rw[ag cw];cbv;refine⟨aG,λT C=>iW (au C _ _ D3) ?_ λm l h5=>?_⟩
    .rw[r2.1,Bc];exact d8 cc aG
    obtain⟨a1,a2,a3⟩:=lq w.cost T _ m C rfl (by rw[ag cw]) l h5
    mleft;obtain⟨ad,ba,c1,c2,c3⟩:=a3;mright;exact⟨⟨_,rfl⟩,a1,a2,ad,c1,ba,c2,c3⟩
   rw[ae cw];cbv;refine⟨aG,λT C=>iW (au C _ _ D3) ?_ λm l h5=>?_⟩
   .rw[r2.1,Bc];exact d8 cc aG
   obtain⟨a1,a2,a3⟩:=lq 0 T _ m C rfl (by rw[ae cw]) l h5
   mleft;obtain⟨ad,ba,c1,c2,c3⟩:=a3;mright;exact⟨⟨_,rfl⟩,a1,a2,ad,c1,ba,c2,c3⟩
  mleft;obtain⟨⟨v6,v7,rfl⟩,O,⟨us,r1,r2⟩,Y,mo,r3,r4,r5⟩:=q;mright;have gl:cE.length=U.length:=by rw[zw.1,L,bG]
  rw[gl,eG]at r2 r4;have p2:=O _ _ up1 bv;have cm:fa∉[sa,D]:=λe=>by
   rcases b0.mp e with e|e
   .exact B e
   exact aL (oK.mp e).symm
  have f2:=O _ _ cm (sD _ _ q5);cbv;refine⟨sN f2,iW f2 ?_ λH3 l h3=>?_⟩
  .rw[q6.1,c8];exact eE (show i<9 by have:=MO.p8;lia) aG
  have cn:aw (nw Hb H') (nw Hb H3):=kn λb u J q=>by
   have nf:b≠fa:=λe=>by rw[e,b3]at J;cases J
   rw[l b nf];refine O b u (λe=>?_) (sD _ _ q);rcases b0.mp e with e|e
   .rw[e,b2]at J;cases J
   rw[oK.mp e,hD]at q;cases q
  have co:aw (nw (upd H' D (.lst [])) f) (nw Hb H3):=aw.trans (fD λb q=>a8 b (sD.free q)) (kn λb u J q=>by rw[l b (λe=>by rw[e,b3]at J;cases J)];exact q)
  rw[<-L];refine⟨⟨_,rfl⟩,λb o N q=>?_,⟨ys++Y,?_,?_⟩,zs++[.ref D],h3,?_⟩
  .rw[l b (λe=>N (by simp[e]))]
   exact O b o (up b o N q).1 (up b o N q).2
  .rw[l sa (bq B)];exact r3
  .rw[r4];exact(q4.imp λy a h=>h.same cn).append (r5.imp λy a h=>h.same co)
  refine(q6.imp λy a h=>gb.same cn h).snoc ⟨D,us,rfl,dm (a8 D hD) ?_,r2.imp λy a h=>h.same co⟩;rw[l D aL];exact r1
 mleft;obtain⟨⟨v3,v4,v5,v6,v7,rfl⟩,so,⟨ys,q3,q4⟩,zs,q5,q6⟩:=q;mright;rw[zp.1,<-ap,eG]at q4 q6;have fr:∀b,Hb b=none->H b=none:=λb J=>by
  by_cases e:b=p
  .rw[e,b1]at J;cases J
  cases z:H b with
  |none=>rfl
  |some o=>rw[xb b o e z]at J;cases J
 refine k (.ref sa) (.ref fa) H' (λb o N q=>so b o (G b o N q).1 (G b o N q).2) (so _ _ bd b1) ⟨sa,ys,rfl,dm a0 q3,q4.imp λy a h=>h.same (fD fr)⟩ ⟨fa,zs,rfl,dm a4 q5,q6.imp λy a h=>gb.same (fD fr) h⟩
structure gq(t:Ad)(H:Hp)(v:V)(T:VM.jo):Prop where
 ex:∃x dx sv fv,v=.ref x/\H x=some (.ins t.gu dx (yH (.int (T.all:Nat)) (.int (T.goal:Nat)) sv fv))/\aV (eO t) H sv T.steps/\aV gb H fv T.wU
theorem gq.same{H:Hp}{v:V}{T:VM.jo}(s:aw H H')(h:gq t H v T):gq t H' v T:=by
 mleft;obtain⟨x,Y,U,Q,e,O,N,M⟩:=h.ex;mright;exact⟨x,Y,U,Q,e,s _ _ O,aV.same eO.mn s N,aV.same gb.mn s M⟩
theorem Jn{H:Hp}{Q:Addr->Hp->Prop}{E:L2.XK}{O:V}{M:Sw66.Metre}{wc:Bool}(L:cS t H O M)
  (k:∀x H',H x=none->aw H H'->gq t (nw H H') (.ref x) (VM.ji (VM.cutsOf M).1 (VM.aT M wc))->Q x H'):∀x Y,H x=none->H Y=none->Y≠x->BU t [V.ref x,O,.bl wc] (upd (upd H Y (.own x)) x (.ins t.gu Y [])) (λv J=>v=.aX/\Q x J) E:=by
 intro x Y U hd n;have T:aw H (upd (upd H Y (.own x)) x (.ins t.gu Y [])):=(au hd).trans (au (by rw[aj (bq n)];exact U))
 refine⟨x,Y,O,M,wc,rfl,af,L.same T,λI G H' D C B A=>⟨rfl,k x H' U (λb o q=>?_) ⟨x,Y,I,G,rfl,dm U C,aV.same eO.mn (fD λb N=>T.free N) B,aV.same gb.mn (fD λb N=>T.free N) A⟩⟩⟩;exact D b o (aO q U) (T b o q)
end
end
section
def W4(t:Ad)(A B:Hp)(v:V)(o:VM.Off):Prop:=X4 λx Y a b=>Y4 (v=.ref x) (A x=some (.ins t.gZ Y (yZ (.bl o.mj) (.ref a) (.ref b) (.bl o.we)))) (A a=some (.lst (o.tk.map iV))) (B b=some (.lst (o.pr.map iV)))
abbrev bw(t:Ad)(H:Hp)(v:V)(o:VM.Off):Prop:=W4 t H H v o
theorem bw.same{H Y:Hp}{v:V}{o:VM.Off}(s:aw H Y)(h:bw t H v o):bw t Y v o:=by
 mleft;obtain⟨x,U,a,b,e,T,Q,O⟩:=h;mright;exact⟨x,U,a,b,e,s _ _ T,s _ _ Q,s _ _ O⟩
theorem bw.mn:∀H Y y a,aw H Y->bw t H y a->bw t Y y a:=λ_ _ _ _ s h=>bw.same s h
theorem kr(n:Nat):iV n=.int (n:Int):=rfl
def upTo(f:Nat->Nat):Nat->List Nat
 |0=>[0,0,0,0]
 |1=>[0,f 1,0,0]
 |2=>[0,f 1,f 2,0]
 |_=>[0,f 1,f 2,f 3]
theorem Gv{f:Nat->Nat}{i:Nat}(h:i<3):((upTo f i).map iV).set (i+1) (iV (f (i+1)))=(upTo f (i+1)).map iV:=by
 obtain rfl|rfl|rfl:i=0\/i=1\/i=2:=by lia
 all_goals rfl
theorem WK{f:Nat->Nat}{i:Nat}(h:i<3)(Y:f (i+1)=0):upTo f (i+1)=upTo f i:=by
 obtain rfl|rfl|rfl:i=0\/i=1\/i=2:=by lia
 all_goals simp[upTo]at Y ⊢;simp[Y]
theorem Bo(f:Nat->Nat)(i:Nat):((upTo f i).map iV).length=4:=by
 rw[bG];unfold upTo;split<;>rfl
def Rp(t:Ad):Sp:=λvs H Q _=>X2 λ(s:Sw66.Syll) (Y:Bool)=>vs=[.int s.weight,.int s.join,.int (VM.bI s.ends),.bl Y]/\∀v U,aw H U->bw t (nw H U) v (VM.b9 Y s)->Q v U
theorem QN(T:Txt K mg t):aM P w K mg base bX 3 t.GW t.xW ["weight","join","word_ends","mending"] (Rp t):=by
 refine T.xN.ok sJ (λvs H Q E h=>?_) (λam A ab s H vs Q E hr h=>?_)
 .mleft;obtain⟨s,Y,rfl,_⟩:=h;mright;rfl
 mleft;obtain⟨U,Y,rfl,k⟩:=h;mright;refine⟨_,ah (aH (i:=4) sJ.nd rfl aI (bh OR (dt (aa (ax) ai)) (bh dq (cH ay T.zh) (ax))))
  (ah (aH (i:=5) sJ.nd rfl aI (bh OR (dt (aa (ax) ai)) (bh dq (cH ay T.zh) (ax))))
  (ah (bZ (aW Zx (pv 1) (cH ay T.Dp) (aR _)) (ak (cz cO rfl (C5 ay T.dG (aa (ax) (aa (bh dq (cH ay T.zh) (ax)) ai))) (aE (i:=6) sJ.nd rfl aI) (ah (ID (aB (FE T) aN ay T.FY T.sC.kp (FR T) .nil aC (aa (pv 0) (aa (pv 6) ai))) (Ho (pv 4) (pv 6) set_list))
  (ak (bZ ((Ph (fS (pv 3) (λ_=>rfl)) (Kz (aW fq (aS (bF K) (pv 4) (pv 6) (λ_ _=>rfl)) (ax) (aR _)))).pt) (ah (ID (pv 6) (Ho (pv 4) (pv 6) set_list))
  (ak (ID (ax) (Ho (pv 5) (pv 6) set_list)))) bp))))) bp)
  (ak (aK (d7 T.Oh (BI T) aN ay T.O6 (B2 T) .nil aC (aa (eM iY (pv 1) (ax) (aR _)) (aa (pv 4) (aa (pv 5) (aa (eM fq (pv 2) (ax) (aR _)) ai))))))))),?_⟩
 cbv;refine⟨aG,λq0 al=>⟨q0,_,_,rfl,rfl,af,aG,aG,aG,λO z=>?_⟩⟩;cbv;refine⟨aG,λq1 G=>⟨q1,_,_,rfl,rfl,af,aG,aG,aG,λpx M=>?_⟩⟩;cbv;have y:=au (o:=.lst [.int 0]) al;have ft:H O=none:=y.free z;have f:=y.trans (au (o:=.lst (List.replicate (3+1:Int).toNat [V.int 0]).flatten) z);have C:=f.trans (au (o:=.lst [.int 0]) G);have fp:H px=none:=C.free M;have L:O≠px:=λe=>by
  have:(upd (upd (upd H q0 (.lst [.int 0])) O (.lst (List.replicate (3+1:Int).toNat [V.int 0]).flatten)) q1 (.lst [.int 0])) O=some (.lst (List.replicate (3+1:Int).toNat [V.int 0]).flatten):=au G _ _ af;rw[<-e,this]at M;cases M
 generalize J:upd _ px _=Hc;have u:=lr J px;rw[af]at u;replace u:Hc px=some (.lst ([0,0,0,0].map iV)):=u.symm;have r:=lr J O;rw[aj L,au G _ _ af]at r;replace r:Hc O=some (.lst ([0,0,0,0].map iV)):=r.symm;have sc:aw H Hc:=by rw[<-J];exact C.trans (au M)
 clear J;have fin:∀(N:Hp) (D:Ends),aw H N->N O=some (.lst ((VM.b9 Y U).tk.map iV))->N px=some (.lst ((VM.b9 Y U).pr.map iV))->∀x B,N x=none->N B=none->B≠x->tZ t [.ref x,.bl (decide (0<(U.join:Int))),.ref O,.ref px,.bl (decide (VM.bI U.ends=1))] (upd (upd N B (.own x)) x (.ins t.gZ B [])) (λv H2=>v=.aX/\Q (.ref x) H2) E0:=λN D s' l j=>Jw λx B H3 hx C h3=>by
  refine k _ H3 (s'.trans C) ⟨x,B,O,px,rfl,dm (s'.free hx) ?_,dm ft (C _ _ l),dm fp (C _ _ j)⟩;rw[h3,TZ,show decide (0<(U.join:Int))=(VM.b9 Y U).mj from decide_eq_decide.mpr ao];rfl
 by_cases d:U.join=1
 .rw[ae ao];cbv;refine fin Hc { nx:=λ_ _=>True,rt:=Q } sc ?_ ?_
  .rw[r];unfold VM.b9;rw[ag d]
  rw[u];unfold VM.b9;simp only[ag d]
 rw[ag ao];cbv;refine Uv (m:=1) (n:=4) (H1:=Hc) (λR q=>by cbv;exact q) aG (λi σ N=>(∃v6,σ=[some (.int U.weight),some (.int U.join),some (.int (VM.bI U.ends)),some (.bl Y),some (.ref O),some (.ref px),v6])/\aw H N/\N O=some (.lst ((upTo (VM.jA Y U.weight) i).map iV))/\N px=some (.lst ((upTo (VM.qI Y U.weight) i).map iV)))
  ⟨⟨_,rfl⟩,sc,r,u⟩ (λi σ N hi p=>?_) (λσ N p=>?_)
 .mleft;obtain⟨⟨v6,rfl⟩,s1,l,j⟩:=p;mright;have I:i<3:=by simpa using hi
  cbv;refine⟨U.weight,i+1,by rw[show(1:Int)+i=((i+1:Nat):Int)by lia],?_⟩
  try unfold Yk
  cbv;refine⟨O,_,_,i+1,rfl,rfl,l,?_,?_⟩
  .rw[show(1:Int)+i=((i+1:Nat):Int)by lia]
   exact yE (by rw[Bo];lia)
  have c:xB O N (upd N O (.lst (((upTo (VM.jA Y U.weight) i).map iV).set (i+1) (.int (VM.du U.weight (i+1):Nat))))):=λb n=>aj n;generalize g:upd N O (.lst (((upTo (VM.jA Y U.weight) i).map iV).set (i+1) (.int (VM.du U.weight (i+1):Nat))))=H2 at c;have g1:H2 O=some (.lst (((upTo (VM.jA Y U.weight) i).map iV).set (i+1) (iV (VM.du U.weight (i+1))))):=by rw[<-g];exact af
  have g2:H2 px=_:=(c px (bq L)).trans j;have f:aw H H2:=Zv.but s1 c ft;clear g c;cbv;refine⟨Y,rfl,?_⟩;have done:VM.jA Y U.weight (i+1)=VM.du U.weight (i+1)->VM.qI Y U.weight (i+1)=0->aw H H2/\H2 O=some (.lst ((upTo (VM.jA Y U.weight) (i+1)).map iV))/\H2 px=some (.lst ((upTo (VM.qI Y U.weight) (i+1)).map iV)):=λe1 e2=>⟨f,by rw[g1,<-e1,Gv I],by rw[g2,WK I e2]⟩
  cases Y with
  |false =>
   simp only[oN,gA];obtain⟨a1,a2,a3⟩:=done (by simp[VM.jA]) (by simp[VM.qI])
   exact⟨⟨_,rfl⟩,a1,a2,a3⟩
  |true =>
   simp only[dB];refine⟨_,iV (VM.du U.weight (i+1)),.of g1,?_,?_⟩
   .rw[show(1:Int)+i=((i+1:Nat):Int)by lia]
    refine bE ?_;rw[Bs (by rw[Bo];lia)]
   cbv;try simp only[kr]
   cbv;by_cases a:VM.du U.weight (i+1)=0
   .rw[ag ao];cbv;refine⟨O,_,_,i+1,rfl,rfl,g1,?_,?_⟩
    .rw[show(1:Int)+i=((i+1:Nat):Int)by lia]
     exact yE (by rw[HC,Bo];lia)
    cbv;refine⟨px,_,_,i+1,rfl,rfl,(by rw[aj (bq L)];exact g2),?_,?_⟩
    .rw[show(1:Int)+i=((i+1:Nat):Int)by lia]
     exact yE (by rw[Bo];lia)
    have et:VM.jA true U.weight (i+1)=i+1:=by unfold VM.jA;rw[ag ⟨rfl,a⟩]
    have ep:VM.qI true U.weight (i+1)=1:=by unfold VM.qI;rw[ag ⟨rfl,a⟩]
    refine⟨⟨_,rfl⟩,λb o q=>?_,?_,?_⟩
    .rw[aj (aO q fp),aj (aO q ft)];exact f b o q
    .rw[aj L,af,List.set_set,<-Gv I,et];rw[kr,show((i+1:Nat):Int)=1+(i:Int)by lia]
    rw[af,<-Gv I,ep];rfl
   rw[ae ao];cbv;obtain⟨a1,a2,a3⟩:=done (by unfold VM.jA;rw[ae (λh=>a h.2)]) (by unfold VM.qI;rw[ae (λh=>a h.2)])
   exact⟨⟨_,rfl⟩,a1,a2,a3⟩
 mleft;obtain⟨⟨v6,rfl⟩,s1,l,j⟩:=p;mright;cbv;refine fin N { nx:=λ_ _=>True,rt:=Q } s1 ?_ ?_
 .rw[l];unfold VM.b9;rw[ae d];rfl
 rw[j];unfold VM.b9;simp only[ae d];rfl
def P5(t:Ad):Sp:=λvs H Q _=>X3 λ(T:V) (l:Sw66.Line) (Y:Bool)=>Y3 (vs=[T,.bl Y]) (lp t H T l) (∀v U,aw H U->aV (bw t) (nw H U) v (VM.bg Y l)->Q v U)
theorem C2(T:Txt K mg t):aM P w K mg base bX 5 t.CB t.vT ["line","mending"] (P5 t):=by
 refine T.pC.ok qv (λvs H Q E h=>?_) (λo A I s H vs Q E hr h=>?_)
 .mleft;obtain⟨n,l,Y,rfl,_⟩:=h;mright;rfl
 mleft;obtain⟨n,l,Y,rfl,⟨⟨a,rfl,L⟩,aQ⟩,k⟩:=h;mright;mleft;obtain⟨m,j,ja,ea,g,f,d,h4⟩:=id L;mright;have LO:=VM.eC.of aQ;refine⟨_,ak (aK (iX rfl qv.nd (gB ay T.c7 (aa (aF T.eA T.gJ (pv 0)) ai)) (b6 (own:=[("index",2),("weight",3)]) ay) (λ_ _ _ _ _=>(gk K 2 rfl (bu (aE (i:=2) qv.nd rfl aI) (bu (aE (i:=3) qv.nd rfl aI) d9)))) (λ_ _ _ _ _=>cW) (λ_ _ _ _ _=>(aB (QN T) aN ay T.Rb T.xN.kp (Rx T) .nil aC (aa (pv 3) (aa (aS (bF K) (aF T.eA T.eQ (pv 0)) (pv 2) (λ_ _=>rfl)) (aa (aS (bF K) (aF T.eA T.pT (pv 0)) (pv 2) (λ_ _=>rfl)) (aa (pv 1) ai)))))))),?_⟩;cbv;refine VP (a:=j) (H1:=H) (λR q=>by cbv;exact q) (.of f) (λi ys A=>Zp (bw t A) ys ((VM.bg Y l).take i)) (λi ys A B s h=>h.imp λy a q=>bw.same s q) Zp.nil (λD i y C J u p=>?_) (λD C J p=>?_)
 .mleft;obtain⟨N,ys,U,z⟩:=p;mright;rw[cM,lM]at u;obtain⟨r,O,rfl⟩:=u;have hi:=(dE.mp O).1;have ab:=N _ _ g;cbv;refine⟨_,_,.of (N _ _ d),bE (by rw[cM,O];rfl),?_⟩
  cbv;refine⟨_,_,.of (N _ _ h4),bE (by rw[cM,O];rfl),?_⟩
  refine⟨r,Y,rfl,λv H2 G hv=>dW.next J (N.trans G) (G _ _ U) ?_ ?_⟩
  .rw[z.1,iA];exact d8 (F8 _ _) (eE (show i<25 by have:=LO.lS;lia) aG)
  have ho:(VM.bg Y l)[i]?=some (VM.b9 Y r):=by unfold VM.bg;rw[cM,O];rfl
  rw[bo ho];refine(z.imp λy a q=>bw.same (Bt G) q).snoc (bw.same (fD λb M=>?_) hv);have nb:b≠D:=λe=>by rw[e,U]at M;cases M
  rw[aj nb];exact N.free M
 mleft;obtain⟨N,ys,U,z⟩:=p;mright;have e:(VM.bg Y l).take (List.map (λs=>V.int (s.weight:Int)) l).length=VM.bg Y l:=by
  rw[CJ];unfold VM.bg;simp
 rw[e]at z;refine k _ C N ⟨D,ys,rfl,dm J U,z.imp λy a q=>bw.same (fD λb M=>?_) q⟩;by_cases c:b=D
 .rw[c];exact J
 rw[aj c]at M;exact M
def DQ(t:Ad)(A:Hp)(b:Addr)(v:V)(o:VM.Off):Prop:=X3 λx Y a=>Y3 (v=.ref x) (A x=some (.ins t.gZ Y (yZ (.bl o.mj) (.ref a) (.ref b) (.bl o.we)))) (A a=some (.lst (o.tk.map iV)))
def VN(t:Ad):Sp:=λvs H Q _=>X6 λ(x U a b:Addr) (o:VM.Off) (n:Nat)=>Y5 (vs=[.ref x,.int n]) (H x=some (.ins t.gZ U (yZ (.bl o.mj) (.ref a) (.ref b) (.bl o.we)))) (H a=some (.lst (o.tk.map iV))) (o.tk.length<=10) (∀r Y,aw H Y->DQ t (nw H Y) b r (VM.jg o n)->Q r Y)
theorem VA(T:Txt K mg t):aM P w K mg base bX 3 t.pinned t.DU ["offer","value"] (VN t):=by
 refine T.Ep.ok Cm (λvs H Q E h=>?_) (λC A O s H vs Q E hr h=>?_)
 .mleft;obtain⟨x,B,a,b,o,n,rfl,_⟩:=h;mright;rfl
 mleft;obtain⟨x,B,a,b,o,n,rfl,z,u,N,k⟩:=h;mright;refine⟨_,ah (ka (i:=2) rfl Cm.nd rfl rfl (kU rfl rfl rfl rfl) (dc (aF T.fC T.jU (pv 0))) (b6 (own:=[("what",3)]) ay) (λ_ _ _ _ _=>(aE (i:=3) Cm.nd rfl aI)) (λ_ _ _ _ _=>cW) (λ_ _ _ _ _=>(lY (aW fq (pv 3) (pv 1) (aR _)) (pv 3) (ax))))
  (ak (aK (d7 T.Oh (BI T) aN ay T.O6 (B2 T) .nil aC (aa (eM fq (pv 1) (ax) (aR _)) (aa (pv 2) (aa (aF T.fC T.qK (pv 0)) (aa (aF T.fC T.mf (pv 0)) ai))))))),?_⟩
 cbv;refine BV (a:=a) (H1:=H) (λR q=>by cbv;exact q) (.of u) (iJ (o.tk.map iV) λv=>match v with|.int i=>.int (if i=n then i else 0)|_=>.aX) rfl (λD i y r U M p=>?_) (λD r U p=>?_)
 .have Y:=M;rw[cM,lM]at Y;obtain⟨w,g,rfl⟩:=Y;cbv;try simp only[kr]
  cbv;have hz:(o.tk.map iV).length<=sizeLine:=by rw[bG];exact bT N aG
  by_cases c:(w:Int)=n
  .rw[ag c];exact iJ.next p M (by simp[kr,c]) (.refl _) U hz
  rw[ae c];exact iJ.next p M (by simp[kr,c]) (.refl _) U hz
 have e:=iJ.done p;have L:=p.1 _ _ z;cbv;try simp only[L]
 cbv;refine Jw λm J l I G j=>?_;refine k _ l (p.1.trans G) ⟨m,J,D,rfl,dm (p.1.free I) ?_,dm U ?_⟩
 .rw[j];have:decide ((n:Int)=0)=(VM.jg o n).mj:=by
   show _=(n==0);rw[lU,dI,lK];lia
  rw[this];rfl
 rw[G _ _ e];unfold VM.jg;rw[cf,cf];congr 2;refine kZ λw _=>?_;show V.int (if (w:Int)=n then(w:Int)else 0)=V.int ((if w=n then w else 0:Nat):Int)
 by_cases c:w=n
 .rw[ag ao,ag c]
 rw[ae ao,ae c];cbv;rfl
end
section
variable{H':Hp}
section
def tQ(n:Nat):Key:=Sum.inl (n:Int)
def l5(p:Nat×Nat):List Key:=[Sum.inl (p.1:Int),Sum.inl (p.2:Int)]
theorem z5{a b:Nat}(h:tQ a=tQ b):a=b:=by
 have:=Sum.inl.inj h;lia
theorem AR{a b:Nat×Nat}(h:l5 a=l5 b):a=b:=by
 unfold l5 at h;simp only[List.cons.injEq,Sum.inl.injEq,and_true]at h;obtain⟨x,y⟩:=a;obtain⟨z,u⟩:=b;simp only at h;rw[show x=z by lia,show y=u by lia]
def yW{κ Y:Type}(U:κ->Y)(R:V->Nat×Nat->Prop)(T:List (Y×V))(D:VM.DL κ):Prop:=Paired (λp e=>p.1=U e.1/\R p.2 e.2) T D
section
variable{κ κ':Type}[DecidableEq κ][DecidableEq κ']{enc:κ->κ'}
def rj(k:κ)(p:Nat×Nat):VM.DL κ->VM.DL κ
 |[]=>[(k,p)]
 |(Y,v)::r=>if Y=k then(Y,p)::r else(Y,v)::rj k p r
theorem Co{k:κ}{c n:Nat}:∀{D:VM.DL κ},VM.look k D=none->VM.dY k c n D=rj k (c,n) D
 |[],_=>rfl
 |(Y,v)::r,h=>by
  unfold VM.look at h;unfold VM.dY rj;by_cases e:Y=k
  .rw[ag e]at h;cases h
  rw[ae e]at h ⊢;rw[ae e,Co h]
theorem CM{k:κ}{c n Y U:Nat}:∀{D:VM.DL κ},VM.look k D=some (Y,U)->VM.dY k c n D=rj k (if c<Y then(c,n)else if c=Y then(c,U+n)else(Y,U)) D
 |[],h=>by cases h
 |(T,v)::r,h=>by
  unfold VM.look at h;unfold VM.dY rj;by_cases e:T=k
  .rw[ag e]at h ⊢;cases h;rw[ag e]
  rw[ae e]at h ⊢;rw[ae e,CM h]
theorem DI{k:κ}{p:Nat×Nat}:∀{D:VM.DL κ},VM.look k D=some p->rj k p D=D
 |[],h=>by cases h
 |(Y,v)::r,h=>by
  unfold VM.look at h;unfold rj;by_cases e:Y=k
  .rw[ag e]at h ⊢;cases h;rfl
  rw[ae e]at h ⊢;rw[DI h]
theorem DE(inj:∀a b,enc a=enc b->a=b){R:V->Nat×Nat->Prop}{k:κ}:∀{Y:List (κ'×V)} {D:VM.DL κ},yW enc R Y D->(VM.look k D=none->eU Y (enc k)=none)/\∀p,VM.look k D=some p->∃v,eU Y (enc k)=some v/\R v p
 |_,_,.nil=>⟨λ_=>rfl,λp h=>by cases h⟩
 |(j,v)::Y,(U,p)::D,.cons r t=>by
  have T:=DE inj (k:=k) t;unfold VM.look;by_cases e:U=k
  .rw[ag e];cbv;refine⟨λh=>(by cases h),λq h=>?_⟩
   cases h;exact⟨v,AY (p:=(j,v)) (by rw[<-e];exact r.1),r.2⟩
  rw[ae e];cbv;have Q:¬(j,v).1=enc k:=λz=>e (inj _ _ ((show j=enc U from r.1).symm.trans z));rw[Au Q];exact T
theorem Qt(inj:∀a b,enc a=enc b->a=b){R:V->Nat×Nat->Prop}{k:κ}{y:V}{p:Nat×Nat}(Y:R y p):∀{kvs:List (κ'×V)} {D:VM.DL κ},yW enc R kvs D->(D.map (·.1)).Nodup->yW enc R (putK kvs (enc k) y) (rj k p D)
 |_,_,.nil,_=>by
  unfold putK rj;simp only[List.any_nil,oN,gA,vn];exact .cons ⟨rfl,Y⟩ .nil
 |(j,v)::kvs,(j',q)::D,.cons r t,U=>by
  rw[bM,qD]at U;have M:=Qt inj (k:=k) Y t U.2;by_cases e:j'=k
  .subst e;unfold rj;rw[ag rfl];cbv;have O:j=enc j':=r.1;have T:putK ((j,v)::kvs) (enc j') y=(j,y)::kvs:=by
    unfold putK;rw[ag (by simp[O]),bM,ag O]
    cbv;congr 1;have Q:enc j'∉kvs.map (·.1):=λh=>by
     obtain⟨z,hz,L⟩:=bS.mp h;obtain⟨i,J⟩:=PN hz;mleft;obtain⟨b,I,H,_⟩:=qi t J;mright;exact U.1 (bS.mpr ⟨b,cI I,inj _ _ (H.symm.trans L)⟩)
    have:∀z∈kvs,(if z.1=enc j' then(z.1,y)else z)=z:=λz hz=>by
     rw[ae (λh=>Q (bS.mpr ⟨z,hz,h⟩))]
    rw[kZ this,List.map_id']
   rw[T];exact .cons ⟨r.1,Y⟩ t
  have N:¬j=enc k:=λz=>e (inj _ _ ((show j=enc j' from r.1).symm.trans z));unfold rj;rw[ae e];cbv;have T:putK ((j,v)::kvs) (enc k) y=(j,v)::putK kvs (enc k) y:=by
   unfold putK;simp only[vk,jF N,Np,bM,ae N,rQ];split<;>rfl
  rw[T];exact .cons r M
theorem ze{R:V->Nat×Nat->Prop}{Y:List (κ'×V)}{D:VM.DL κ}(h:yW enc R Y D):Y.length=D.length:=mO h
end
def gV(H:Hp)(d:Addr)(D:VM.DL Nat):Prop:=∃Y,H d=some (.dK Y)/\yW tQ (fO H) Y D
def fh(H:Hp)(d:Addr)(D:VM.DL (Nat×Nat)):Prop:=∃Y,H d=some (.dT Y)/\yW l5 (fO H) Y D
theorem yW.imp{κ Y:Type}{U:κ->Y}{R S:V->Nat×Nat->Prop}{T:List (Y×V)}{D:VM.DL κ}(h:yW U R T D)(i:∀v p,R v p->S v p):yW U S T D:=Paired.Ti h λ_ _ z=>⟨z.1,i _ _ z.2⟩
theorem gV.same{H:Hp}{d:Addr}{D:VM.DL Nat}(s:aw H H')(h:gV H d D):gV H' d D:=by
 obtain⟨Y,U,T⟩:=h;exact⟨Y,s _ _ U,T.imp λv p q=>q.same s⟩
theorem fh.same{H:Hp}{d:Addr}{D:VM.DL (Nat×Nat)}(s:aw H H')(h:fh H d D):fh H' d D:=by
 obtain⟨Y,U,T⟩:=h;exact⟨Y,s _ _ U,T.imp λv p q=>q.same s⟩
theorem fO.dN{H:Hp}{d:Addr}{v:V}{p:Nat×Nat}(s:aq d H H')(Y:∀xs,H d≠some (.tup xs))(h:fO H v p):fO H' v p:=by
 obtain⟨x,e,h⟩:=h;exact⟨x,e,s _ _ (λz=>Y _ (z▸h)) h⟩
def Uy(H:Hp)(d:Addr)(Y:V)(c n:Nat)(Q:VK):Prop:=∃o:Option V,Y3 (OK H d) (oz H d Y o) ((o=none/\∀v H1,aw H H1->fO H1 v (c,n)->∃U,mE H1 d Y v U/\Q .aX U)\/
 X3 λT O N=>Y5 (o=some N) (fO H N (T,O)) (c<T->∀v H1,aw H H1->fO H1 v (c,n)->∃U,mE H1 d Y v U/\Q .aX U) (c=T->∀v H1,aw H H1->fO H1 v (c,O+n)->∃U,mE H1 d Y v U/\Q .aX U) (T<c->Q .aX H))
theorem RR{H:Hp}{d:Addr}{D:VM.DL Nat}{k c n:Nat}{Q:VK}(G:gV H d D)(E:(D.map (·.1)).Nodup)(hz:D.length<sizeLine)(J:∀H',aq d H H'->gV H' d (VM.dY k c n D)->Q .aX H'):Uy H d (.int k) c n Q:=by
 obtain⟨Y,U,O⟩:=G;have o:∀xs,H d≠some (.tup xs):=λxs e=>by rw[U]at e;cases e
 have put:∀p,VM.dY k c n D=rj k p D->∀v H1,aw H H1->fO H1 v p->∃H2,mE H1 d (.int k) v H2/\Q .aX H2:=λp C v H1 M B=>by
  have I:=M _ _ U;refine⟨_,mE.k (k:=tQ k) I (by rw[ze O];exact hz),J _ ((aq.of M).trans aq.upd) ⟨_,af,?_⟩⟩
  rw[C];exact(Qt (λa b=>z5) B (O.imp λv p q=>q.same M) E).imp λv p q=>q.dN aq.upd λxs e=>by rw[I]at e;cases e
 obtain⟨A,z⟩:=DE (λa b=>z5) (k:=k) O;refine⟨eU Y (tQ k),.inl ⟨_,.inl U⟩,oz.k (k:=tQ k) U,?_⟩;cases T:VM.look k D with
 |none=>exact .inl ⟨A T,put _ (Co T)⟩
 |some p =>
  obtain⟨v,y,u⟩:=z p T;obtain⟨s,r⟩:=p;have L:=CM (c:=c) (n:=n) T;refine .inr ⟨s,r,v,y,u,λN=>put _ (by rw[L,ag N]),λN=>put _ (by rw[L,ae ao,ag N]),λN=>J H (aq.refl _ _) ?_⟩
  rw[L,ae ao,ae ao,DI T];exact⟨Y,U,O⟩
theorem SM{H:Hp}{d b:Addr}{D:VM.DL (Nat×Nat)}{k:Nat×Nat}{c n:Nat}{Q:VK}(E:H b=some (.tup [.int k.1,.int k.2]))(C:fh H d D)(B:(D.map (·.1)).Nodup)(hz:D.length<sizeLine)(I:∀H',aq d H H'->fh H' d (VM.dY k c n D)->Q .aX H'):Uy H d (.ref b) c n Q:=by
 obtain⟨Y,U,N⟩:=C;have T:H b=some (.tup ((l5 k).map kV)):=E;have l:∀xs,H d≠some (.tup xs):=λxs e=>by rw[U]at e;cases e
 have put:∀p,VM.dY k c n D=rj k p D->∀v H1,aw H H1->fO H1 v p->∃H2,mE H1 d (.ref b) v H2/\Q .aX H2:=λp A v H1 M z=>by
  have G:=M _ _ U;refine⟨_,mE.t (k:=l5 k) G (M _ _ T) (by rw[ze N];exact hz),I _ ((aq.of M).trans aq.upd) ⟨_,af,?_⟩⟩
  rw[A];exact(Qt (λa b=>AR) z (N.imp λv p q=>q.same M) B).imp λv p q=>q.dN aq.upd λxs e=>by rw[G]at e;cases e
 obtain⟨y,u⟩:=DE (λa b=>AR) (k:=k) N;refine⟨eU Y (l5 k),.inr ⟨_,.inl U⟩,oz.t (k:=l5 k) U T,?_⟩;cases O:VM.look k D with
 |none=>exact .inl ⟨y O,put _ (Co O)⟩
 |some p =>
  obtain⟨v,s,r⟩:=u p O;obtain⟨o,m⟩:=p;have J:=CM (c:=c) (n:=n) O;refine .inr ⟨o,m,v,s,r,λL=>put _ (by rw[J,ag L]),λL=>put _ (by rw[J,ae ao,ag L]),λL=>I H (aq.refl _ _) ?_⟩
  rw[J,ae ao,ae ao,DI O];exact⟨Y,U,N⟩
def Qo(K:W.Frag):Sp:=λvs H Q _=>X4 λ(d:Addr) (Y:V) (c n:Nat)=>vs=[.ref d,Y,.int c,.int n]/\Uy H d Y c n Q
theorem pM(T:Txt K mg t):aM P w K mg base bX 2 t.Eh t.wI ["known","key","cost","count"] (Qo K):=by
 refine T.jI.ok CY (λvs H Q E h=>?_) (λJ A U s H vs Q E hr h=>?_)
 .mleft;obtain⟨d,Y,c,n,rfl,_⟩:=h;mright;rfl
 mleft;obtain⟨d,Y,c,n,rfl,o,I,G,D⟩:=h;mright;have O:=sk hr;refine⟨_,ah (aH (i:=4) CY.nd rfl aI (AQ O (pv 0) (pv 1) ⟨rfl,rfl,rfl,rfl⟩))
  (ak (bZ ((qj (aW Hq (pv 4) (jc) (aR _)) (nU (aW qw (pv 2) (aS (bW K) (pv 4) (ax) (λ_ _=>rfl)) (aR _)))).pt) (ak (Ez O (pv 0) (pv 1) (jL (aa (pv 2) (aa (pv 3) ai))) rfl)) (ak (bZ (aW fq (pv 2) (aS (bW K) (pv 4) (ax) (λ_ _=>rfl)) (aR _)) (ak (Ez O (pv 0) (pv 1) (jL (aa (pv 2) (aa (bh dq (aS (bW K) (pv 4) (ax) (λ_ _=>rfl)) (pv 3)) ai))) rfl)) bp)))),?_⟩
 cbv;refine⟨I,o,G,?_⟩;have fin:∀(m:Nat),(∀v H1,aw H H1->fO H1 v (c,m)->∃H2,mE H1 d Y v H2/\Q .aX H2)->2<=sizeLine/\∀p,H p=none->∃H2,mE (upd H p (.tup [.int c,.int m])) d Y (.ref p) H2/\Q .aX H2:=λm N=>⟨aG,λp C=>N _ _ (au C) ⟨p,rfl,af⟩⟩;rcases D with⟨rfl,k⟩|⟨L,B,q,rfl,⟨x,rfl,M⟩,z,N,y⟩
 .cbv;rw[ag (show(none:Option V).getD .aX=.aX from rfl)];exact fin n k
 cbv;rw[ae aP];cbv;refine⟨_,_,.of M,rfl,?_⟩;cbv;by_cases u:c<L
 .rw[ag ao];exact fin n (z u)
 rw[ae ao];cbv;refine⟨_,_,.of M,rfl,?_⟩;cbv;by_cases r:c=L
 .rw[ag ao];cbv;refine⟨_,_,.of M,rfl,?_⟩;cbv;have:=fin (B+n) (N r);rw[vQ]at this;exact this
 rw[ae ao];exact y ao
def MR(t:Ad):Sp:=λvs H Q _=>X5 λ(met:Nat) (Y U:V) (st:Nat×Nat×Nat) (o:VM.Off)=>Y4 (vs=[.int met,Y,U]) (eO t H Y st) (bw t H U o) (Q (.int (VM.bQ met st.2.1 o.we:Nat)) H)
theorem tK(T:Txt K mg t):aM P w K mg base bX 2 t.Bp t.tL ["met","step","offer"] (MR t):=by
 refine T.kM.ok Mx (λvs H Q E h=>?_) (λO A Y s H vs Q E hr h=>?_)
 .mleft;obtain⟨met,N,M,st,o,rfl,_⟩:=h;mright;rfl
 mleft;obtain⟨met,N,M,st,o,rfl,⟨x,J,rfl,I⟩,⟨y,L,a,b,rfl,G,D,C⟩,k⟩:=h;mright;refine⟨_,ak (aK (lY (fS (aF T.fC T.mf (pv 2)) (λ_=>rfl)) (bh Y0 (pv 0) (aF T.jR T.C9 (pv 1))) (pv 0))),?_⟩;cbv;refine⟨o.we,rfl,?_⟩;unfold VM.bQ at k;cases U:o.we with
 |true =>
  rw[U,ag rfl]at k;rw[ag rfl];cbv;rw[DK];exact k
 |false =>
  rw[U,ae aP]at k;rw[ae aP];exact k
end
end
section
variable{H':Hp}
section
structure mr(all:Nat)(D:VM.DL Nat):Prop where
 nd:(D.map (·.1)).Nodup
 le:∀k∈D.map (·.1),k<=all
theorem mr.lt{all:Nat}{D:VM.DL Nat}(h:mr all D)(U:all<=15):D.length<=16:=by
 have:=IU 16 _ h.nd λx Y=>by have:=h.le x Y;lia
 rw[bG]at this;exact this
theorem mr.lt'{all:Nat}{D:VM.DL Nat}(h:mr all D)(Y:all<=15):D.length<sizeLine:=d8 (h.lt Y) aG
theorem mr.nil{all:Nat}:mr all []:=⟨.nil,λk Y=>by simp at Y⟩
theorem mr.add{all k c n:Nat}{D:VM.DL Nat}(h:mr all D)(Y:k<=all):mr all (VM.dY k c n D):=⟨VM.uT h.nd,λx U=>by
 rcases VM.zX.mp U with q|q
 .exact h.le x q
 rw[q];exact Y⟩
theorem mr.above{all met:Nat}{D:VM.DL Nat}(h:mr all D)(Y:all<met):VM.look met D=none:=VM.xp.mpr λq=>by have:=h.le _ q;lia
theorem LW:∀(Y acc:List (Key×V)),((acc++Y).map (·.1)).Nodup->j6 acc Y=acc++Y
 |[],acc,_=>by simp[j6]
 |(k,v)::r,acc,h=>by
  have e:eU acc k=none:=by
   cases U:eU acc k with
   |none=>rfl
   |some x =>
    have q:=Z7 U;rw[jK,Hw]at h;exact absurd rfl (h.2.2 k q k aP)
  show j6 (putK acc k v) r=_;rw[Xi v e,LW r (acc++[(k,v)]) (by simpa using h)]
  simp
theorem KY{κ Y:Type}{U:κ->Y}{R:V->Nat×Nat->Prop}:∀{T:List (Y×V)} {D:VM.DL κ},yW U R T D->T.map (·.1)=(D.map (·.1)).map U
 |_,_,.nil=>rfl
 |_,_,.cons r t=>by
  rw[bM,bM,bM,KY t,r.1]
theorem gV.merge{H:Hp}{d:Addr}{D:VM.DL Nat}{kvs:List (Key×V)}(h:yW tQ (fO H) kvs D)(Y:(D.map (·.1)).Nodup):j6 [] kvs=kvs:=by
 refine LW kvs [] ?_;rw[vn,KY h];exact List.Pairwise.map tQ (λa b n e=>n (z5 e)) Y
def kJ(all:Nat)(H:Hp)(y:V)(f:Nat->VM.TC):Prop:=X2 λd D=>Y4 (y=.ref d) (gV H d D) (mr all D) (∀met,VM.look met D=f met)
theorem kJ.same{all:Nat}{H:Hp}{y:V}{f:Nat->VM.TC}(s:aw H H')(h:kJ all H y f):kJ all H' y f:=by
 mleft;obtain⟨d,D,e,Y,U,T⟩:=h;mright;exact⟨d,D,e,Y.same s,U,T⟩
theorem gV.dN{H:Hp}{d x:Addr}{D:VM.DL Nat}{xs:List V}(s:aq x H H')(T:H x=some (.lst xs))(h:gV H d D):gV H' d D:=by
 obtain⟨Y,U,Q⟩:=h;exact⟨Y,s _ _ (λe=>by rw[e,T]at U;cases U) U,Q.imp λv p q=>q.dN s λys e=>by rw[T]at e;cases e⟩
theorem kJ.dN{all:Nat}{H:Hp}{x:Addr}{xs:List V}{y:V}{f:Nat->VM.TC}(s:aq x H H')(Y:H x=some (.lst xs))(h:kJ all H y f):kJ all H' y f:=by
 mleft;obtain⟨d,D,e,U,T,Q⟩:=h;mright;exact⟨d,D,e,U.dN s Y,T,Q⟩
theorem aq.acm{p:Addr}{H:Hp}(s:aq p H H')(h:H p=none):aw H H':=λb o q=>s b o (aO q h) q
theorem aq.dJ{p:Addr}{Y H:Hp}(U:aw Y H)(s:aq p H H')(h:Y p=none):aw Y H':=λb o q=>s b o (aO q h) (U b o q)
theorem gV.get{H:Hp}{d:Addr}{D:VM.DL Nat}(h:gV H d D)(k:Nat):∃o,OK H d/\oz H d (.int k) o/\((VM.look k D=none/\o=none)\/∃p v,VM.look k D=some p/\o=some v/\fO H v p):=by
 obtain⟨Y,U,Q⟩:=h;obtain⟨O,N⟩:=DE (λa b=>z5) (k:=k) Q;refine⟨eU Y (tQ k),.inl ⟨_,.inl U⟩,oz.k (k:=tQ k) U,?_⟩;cases T:VM.look k D with
 |none=>exact .inl ⟨rfl,O T⟩
 |some p =>
  obtain⟨v,M,L⟩:=N p T;exact .inr ⟨p,v,rfl,M,L⟩
def NA(o:VM.Off)(m g:Nat)(Y U:Nat->VM.TC)(met:Nat):VM.TC:=VM.ck (if o.mj=true then Y met else none) (if o.tk.getD m 0=0 then none else VM.iI (o.pr.getD m 0) (U (VM.bQ met g o.we)))
theorem getD_at{l:List Nat}{m n:Nat}(h:l.length=n)(Y:m<n):(l.map iV)[m]?=some (iV (l.getD m 0)):=by
 rw[cM,dU,cu ao];rfl
def Iv(t:Ad):Sp:=λvs H Q _=>X11 λ(Y U T O:V) (m g a all:Nat) (o:VM.Off) (N M:Nat->VM.TC)=>YB (vs=[Y,U,T,O,.int all]) (eO t H Y (m,g,a)) (bw t H U o) (kJ all H T N) (kJ all H O M) (all<=15) (m<4) (o.tk.length=4) (o.pr.length=4) (∀v H',aw H H'->kJ all H' v (NA o m g N M)->Q v H')
theorem Hv(T:Txt K mg t):aM P w K mg base bX 4 t.vR t.pX ["step","offer","staying","behind","all_met"] (Iv t):=by
 refine T.pH.ok i0 (λvs H Q E h=>?_) (λa4 A al s H vs Q E hr h=>?_)
 .mleft;obtain⟨sv,ov,yv,zv,m,g,a,all,o,f1,f2,rfl,_⟩:=h;mright;rfl
 mleft;obtain⟨sv,ov,yv,zv,m,g,a,all,o,f1,f2,rfl,hS,hO,hY,hZ,I,hm,am,an,k⟩:=h;mright;have hu:=sk hr;mleft;obtain⟨sx,a5,rfl,ap⟩:=id hS;mright;mleft;obtain⟨x,dx,ta,pa,rfl,u,ar,av⟩:=id hO;mright;mleft;obtain⟨d1,D1,rfl,aL,G,l1⟩:=id hY;mright;mleft;obtain⟨d2,D2,rfl,a0,a1,l2⟩:=id hZ;mright;refine⟨_,ah (aH (i:=5) i0.nd rfl aI (rq))
  (ah (bZ (fS (aF T.fC T.nM (pv 1)) (λ_=>rfl)) (ak (b8 (ZT (pv 5) (pv 2) ⟨rfl,rfl,rfl,rfl⟩))) bp)
  (ah (bZ (aW iY (aS (bF K) (aF T.fC T.jU (pv 1)) (aF T.jR T.jO (pv 0)) (λ_ _=>rfl)) (ax) (aR _)) (ah (aH (i:=6) i0.nd rfl aI (aS (bF K) (aF T.fC T.qK (pv 1)) (aF T.jR T.jO (pv 0)) (λ_ _=>rfl)))
  (ak (cz cO rfl (eL ay T.dG (aa (bh dq (pv 4) (ax)) ai)) (aE (i:=7) i0.nd rfl aI) (ah (aH (i:=8) i0.nd rfl aI (AQ hu (pv 3) (aB (tK T) aN ay T.uh T.kM.kp (t6 T) .nil aC (aa (pv 7) (aa (pv 0) (aa (pv 1) ai)))) ⟨rfl,rfl,rfl,rfl⟩))
  (ak (bZ (aW EK (pv 8) (jc) (aR _)) (ak (b8 (aB (pM T) aN ay T.pw T.jI.kp (qp T) .nil aC (aa (pv 5) (aa (pv 7) (aa (bh dq (aS (bW K) (pv 8) (ax) (λ_ _=>rfl)) (pv 6)) (aa (aS (bW K) (pv 8) (ax) (λ_ _=>rfl)) ai))))))) bp)))))) bp)
  (ak (aK (pv 5))))),?_⟩
 cbv;intro r Y;have s0:aw H (upd H r (.dK [])):=au Y;have l:=s0 _ _ u;cbv;try simp only[l]
 cbv;refine⟨o.mj,rfl,?_⟩;by_cases J:o.mj=true
 case' pos =>
  rw[ag J];cbv;obtain⟨U,j,C⟩:=id aL;have n1:r≠d1:=λe=>by rw[e,j]at Y;cases Y
  refine⟨.inl ⟨_,.inl af⟩,n1,[],af,U,s0 _ _ j,?_,?_⟩
  .rw[ze C];exact bT (by simpa using G.lt I) aG
  rw[gV.merge (d:=d1) C G.nd];have L:aw H (upd (upd H r (.dK [])) r (.dK U)):=aq.acm ((aq.of s0).trans aq.upd) Y;have B:gV (upd (upd H r (.dK [])) r (.dK U)) r D1:=⟨U,af,C.imp λv p q=>q.same L⟩;have O:mr all D1:=G;have f:∀met,VM.look met D1=if o.mj=true then f1 met else none:=λmet=>by rw[ag J];exact l1 met
  generalize upd (upd H r (.dK [])) r (.dK U)=H1 at L B;generalize a2:D1=b at B O f
 case' neg =>
  rw[ae J];cbv;have L:=s0;have B:gV (upd H r (.dK [])) r []:=⟨[],af,.nil⟩;have O:mr all []:=.nil;have f:∀met,VM.look met []=if o.mj=true then f1 met else none:=λmet=>by rw[ae J];rfl
  generalize upd H r (.dK [])=H1 at L B;generalize a2:([]:VM.DL Nat)=b at B O f
 all_goals
  have N:=L _ _ u;have M:=L _ _ ap;cbv;try simp only[N,M]
  cbv;refine⟨_,_,.of (L _ _ ar),bE (getD_at am hm),?_⟩;cbv;try simp only[kr]
  cbv;by_cases c0:o.tk.getD m 0=0
  .rw[ae ao];cbv;refine k _ H1 L ⟨r,b,rfl,B,O,λmet=>?_⟩;unfold NA;rw[f,ag c0,VM.di]
  rw[ag ao];cbv;try simp only[N,M]
  cbv;refine⟨_,_,.of (L _ _ av),bE (getD_at an hm),?_⟩;cbv;try simp only[kr]
  cbv;refine JR (n:=(all:Int)+1) (H1:=H1) (λR q=>by cbv;exact q) ao ao (λi σ H'=>(∃v7 v8,σ=[some (.ref sx),some (.ref x),some (.ref d1),some (.ref d2),some (.int all),some (.ref r),some (.int (o.pr.getD m 0:Nat)),v7,v8])/\aw H H'/\∃D,gV H' r D/\mr all D/\∀met,VM.look met D=VM.ck (VM.look met b) (if met<i then VM.iI (o.pr.getD m 0) (f2 (VM.bQ met g o.we))else none))
   ⟨by exact fK,L,b,B,O,λmet=>by rw[ae ao,VM.di]⟩ (λi σ H' hi p=>?_) (λσ H' p=>?_)
  .mleft;obtain⟨⟨v7,v8,rfl⟩,z,D,h1,y,h3⟩:=p;mright;have a3:i<=all:=by lia
   cbv;mleft;obtain⟨ov,q1,q2,q3⟩:=(a0.same z).get (VM.bQ i g o.we);mright;refine⟨q1,?_⟩;refine⟨i,.ref sx,.ref x,(m,g,a),o,rfl,hS.same z,bw.same z hO,?_⟩;refine⟨ov,q2,?_⟩;cbv;have ab:∀D':VM.DL Nat,(∀met,VM.look met D'=if met=i then VM.ck (VM.look i D) (VM.iI (o.pr.getD m 0) (f2 (VM.bQ i g o.we)))else VM.look met D)->∀met,VM.look met D'=VM.ck (VM.look met b) (if met<i+1 then VM.iI (o.pr.getD m 0) (f2 (VM.bQ met g o.we))else none):=λD' e met=>by
    rw[e];by_cases c:met=i
    .subst c;rw[ag rfl,h3,ae ao,VM.di,ag ao]
    rw[ae c,h3];cbv;congr 1;by_cases c2:met<i
    .rw[ag c2,ag ao]
    rw[ae c2,ae ao]
   rcases q3 with⟨e1,rfl⟩|⟨p,v,e1,rfl,px,rfl,hp⟩
   .rw[ae aP];cbv;refine⟨by exact fK,z,D,h1,y,ab D λmet=>?_⟩
    rw[<-l2,e1];by_cases c:met=i
    .rw[ag c,c];exact(VM.di _).symm
    rw[ae c]
   rw[ag aP];cbv;refine⟨_,_,.of hp,rfl,?_⟩;cbv;refine⟨_,_,.of hp,rfl,?_⟩;refine⟨r,.int i,p.1+o.pr.getD m 0,p.2,by rw[vQ],?_⟩
   refine RR h1 y.nd (y.lt' I) λH3 s3 h4=>?_;refine⟨by exact fK,aq.dJ z s3 Y,_,h4,y.add a3,ab _ λmet=>?_⟩
   rw[VM.Cp,<-l2,e1];by_cases c:met=i
   .rw[ag c,ag c];congr 2
   rw[ae c,ae c]
  mleft;obtain⟨⟨v7,v8,rfl⟩,z,D,h1,y,h3⟩:=p;mright;cbv;refine k _ H' z ⟨r,D,rfl,h1,y,λmet=>?_⟩;rw[h3,f];unfold NA;rw[ae c0];cbv;congr 1;by_cases c:met<((all:Int)+1).toNat
  .rw[ag c]
  rw[ae c,<-l2,a1.above (eE (by lia:all<met) (VM.RV met g o.we))]
  cbv;rfl
def N7(bs:List (Nat×Nat))(val:Nat->Nat->VM.TC)(met:Nat):VM.TC:=VM.e8 (bs.map λb=>VM.iI b.1 (val b.2 met))
def Ik(K:W.Frag):Sp:=λvs H Q _=>X6 λ(Y:V) (U:Addr) (T:List V) (bs:List (Nat×Nat)) (all:Nat) (val:Nat->Nat->VM.TC)=>Y6 (vs=[Y,.ref U]) (gb H Y bs) (H U=some (.lst T)) (∀b∈bs,∃y,T[b.2]?=some y/\kJ all H y (val b.2)) (all<=15) (∀v H',aw H H'->kJ all H' v (N7 bs val)->Q v H')
theorem Vj(l:List VM.TC)(a:VM.TC):VM.e8 (l++[a])=VM.ck (VM.e8 l) a:=by
 rw[VM.FU];congr 1;show VM.ck a none=a;exact VM.di a
theorem mr.ip{all c:Nat}:∀(T D:VM.DL Nat),mr all D->(∀e∈T,e.1<=all)->mr all (VM.ip c T D)
 |[],D,h,_=>h
 |e::T,D,h,Y=>mr.ip T _ (h.add (Y e aP)) λU Q=>Y U (by simp[Q])
theorem IF(T:Txt K mg t):aM P w K mg base bX 4 t.wb t.pd ["fork","table"] (Ik K):=by
 refine T.qb.ok jj (λvs H Q E h=>?_) (λar A ab s H vs Q E hr h=>?_)
 .mleft;obtain⟨fv,tx,ds,bs,all,val,rfl,_⟩:=h;mright;rfl
 mleft;obtain⟨fv,tx,ds,bs,all,val,rfl,hF,ht,hb,C,k⟩:=h;mright;mleft;obtain⟨fx,fs,rfl,B,u⟩:=id hF;mright;refine⟨_,ah (aH (i:=2) jj.nd rfl aI (rq))
  (ah (cz cO rfl (dc (pv 0)) (aE (i:=3) jj.nd rfl aI) (ak (yO (cz cO rfl (Gu (aS (bF K) (pv 1) (aS (bW K) (pv 3) (ax) (λ_ _=>rfl)) (λ_ _=>rfl))) (gk K 2 rfl (bu (aE (i:=4) jj.nd rfl aI) (bu (aE (i:=5) jj.nd rfl aI) d9))) (ak (b8 (aB (pM T) aN ay T.pw T.jI.kp (qp T) .nil aC (aa (pv 2) (aa (pv 4) (aa (bh dq (aS (bW K) (pv 5) (ax) (λ_ _=>rfl)) (aS (bW K) (pv 3) (ax) (λ_ _=>rfl))) (aa (aS (bW K) (pv 5) (ax) (λ_ _=>rfl)) ai)))))))))))
  (ak (aK (pv 2)))),?_⟩
 cbv;intro r U;have s0:aw H (upd H r (.dK [])):=au U;cbv;refine forL (a:=fx) (H1:=upd H r (.dK [])) (λR q=>by cbv;exact q) (.of (s0 _ _ B)) (λi σ H'=>(∃v3 N M,σ=[some (.ref fx),some (.ref tx),some (.ref r),v3,N,M])/\aw H H'/\∃D,gV H' r D/\mr all D/\∀met,VM.look met D=N7 (bs.take i) val met)
  ⟨by exact fK,s0,[],⟨[],af,.nil⟩,.nil,λmet=>rfl⟩ (λi σ H' _ p=>.of (p.2.1 _ _ B)) (λi y σ H' hy p=>?_) (λσ H' p=>?_)
 .mleft;obtain⟨⟨v3,N,M,rfl⟩,L,D,h1,h2,h3⟩:=p;mright;mleft;obtain⟨b,m,px,rfl,hp⟩:=u.get hy;mright;mleft;obtain⟨yv,al,d,De,rfl,⟨l,Y,g⟩,m8,lE⟩:=hb b (cI m);mright;have nr:r≠d:=λe=>by rw[e,Y]at U;cases U
  have np:px≠d:=λe=>by rw[e,Y]at hp;cases hp
  have am:tx≠d:=λe=>by rw[e,Y]at ht;cases ht
  have hz:=ze g;cbv;refine Yw (d:=d) (L _ _ Y) (λJ R q=>by
   cbv;refine⟨_,_,.of (by rw[aj np];exact L _ _ hp),rfl,?_⟩
   refine⟨_,_,.of (by rw[aj am];exact L _ _ ht),bE al,q⟩) (λJ j σ G=>(∃N M,σ=[some (.ref fx),some (.ref tx),some (.ref r),some (.ref px),N,M])/\G d=some (.cV J (.dK l))/\aq d H G/\gV G r (VM.ip b.1 (De.take j) D)) (λJ=>⟨by exact fK,af,(aq.of L).trans aq.upd,?_⟩) (λJ j σ H3 p=>p.2.1) (λJ j σ H3 T o hT p=>⟨p.1,au hT _ _ p.2.1,p.2.2.1.trans (.of (au hT)),p.2.2.2.same (au hT)⟩) (λJ j kk v σ G hk p=>?_) (λJ σ G p=>?_)
  .obtain⟨I,g1,g2⟩:=h1;refine⟨I,by rw[aj nr];exact g1,g2.imp λv p q=>q.dN aq.upd λxs e=>by rw[L _ _ Y]at e;cases e⟩
  .mleft;obtain⟨⟨N,M,rfl⟩,q1,f,q3⟩:=p;mright;mleft;obtain⟨e,he,ek,⟨ex,ev,hex⟩⟩:=qi g hk;mright;dsimp only at ek ev;subst ek ev;have an:ex≠d:=λz=>by rw[z,Y]at hex;cases hex
   have O:=f _ _ an hex;have ap:=f _ _ np hp;have av:e∈De:=cI he;have Vr:mr all (VM.ip b.1 (De.take j) D):=mr.ip _ _ h2 λe' h'=>m8.le _ (bS.mpr ⟨e',Pt h',rfl⟩);unfold tQ;cbv;refine⟨_,_,.of O,rfl,?_⟩;refine⟨_,_,.of ap,rfl,?_⟩;cbv;refine⟨_,_,.of O,rfl,?_⟩;refine⟨r,.int e.1,e.2.1+b.1,e.2.2,by rw[vQ],?_⟩
   refine RR q3 Vr.nd (Vr.lt' C) λH3 s3 h4=>?_;refine⟨by exact fK,s3 _ _ (bq nr) q1,λc o n q=>s3 _ _ (aO q U) (f _ _ n q),?_⟩
   rw[bo he];unfold VM.ip at h4 ⊢;rw[yb];exact h4
  mleft;obtain⟨⟨N,M,rfl⟩,q1,f,q3⟩:=p;mright;rw[hz,eG]at q3;have sF:aw H (upd G d (.dK l)):=λc o q=>by
   by_cases n:c=d
   .subst n;rw[af,<-Y];exact q
   rw[aj n];exact f _ _ n q
  refine⟨by exact fK,sF,VM.ip b.1 De D,?_,mr.ip _ _ h2 λe' h'=>m8.le _ (bS.mpr ⟨e',h',rfl⟩),λmet=>?_⟩
  .obtain⟨I,g1,g2⟩:=q3;exact⟨I,by rw[aj nr];exact g1,g2.imp λv p q=>q.dN aq.upd λxs e=>by rw[q1]at e;cases e⟩
  rw[VM.FP _ _ _ _ m8.nd,h3,lE];unfold N7;rw[bo m,jK];exact(Vj _ _).symm
 mleft;obtain⟨⟨v3,N,M,rfl⟩,L,D,h1,h2,h3⟩:=p;mright;rw[u.1,eG]at h3;cbv;exact k _ H' L ⟨r,D,rfl,h1,h2,h3⟩
end
end
section
variable{H':Hp}
section
structure gX(gm:VM.GM)(T:VM.jo)(pos:VM.Pos):Prop where
 ok:VM.pZ gm T pos
 wZ:T.all<=15
 mem:∀(q m g a:Nat),T.steps[q]?=some (m,g,a)->m<4
 g8:T.goal<=8
 s96:T.steps.length<=96
 pow:∃k,T.all=2 ^ k - 1
 ack:VM.OQ T.all T
 w3:∀ws∈gm,ws.length<=3
def nN(T:VM.jo):Nat:=T.goal+1+T.steps.length
def vl(gm:VM.GM)(T:VM.jo)(Y:VM.Pos)(os:List VM.Off)(n met:Nat):VM.TC:=VM.bY gm T.all Y (λ_=>true) os (n,met)
def nL(all n p:Nat)(val:Nat->Nat->VM.TC)(H:Hp)(U:Addr):Prop:=∃Y,Y3 (H U=some (.lst Y)) (Y.length=n) (∀i,p<=i->i<n->∃y,Y[i]?=some y/\kJ all H y (val i))
theorem nL.same{all n p:Nat}{val:Nat->Nat->VM.TC}{H:Hp}{tx:Addr}(s:aw H H')(h:nL all n p val H tx):nL all n p val H' tx:=by
 mleft;obtain⟨Y,U,T,Q⟩:=h;mright;refine⟨Y,s _ _ U,T,λi a b=>?_⟩;obtain⟨y,e,q⟩:=Q i a b;exact⟨y,e,q.same s⟩
theorem nL.dN{all n p:Nat}{val:Nat->Nat->VM.TC}{H:Hp}{tx r:Addr}{xs:List V}(s:aq r H H')(hr:H r=some (.lst xs))(Y:tx≠r)(h:nL all n p val H tx):nL all n p val H' tx:=by
 mleft;obtain⟨U,T,Q,O⟩:=h;mright;refine⟨U,s _ _ Y T,Q,λi a b=>?_⟩;obtain⟨y,e,q⟩:=O i a b;exact⟨y,e,q.dN s hr⟩
theorem kJ.cg{all:Nat}{H:Hp}{y:V}{f g:Nat->VM.TC}(h:kJ all H y f)(e:∀met,f met=g met):kJ all H y g:=by
 mleft;obtain⟨d,D,Y,U,T,Q⟩:=h;mright;exact⟨d,D,Y,U,T,λmet=>(Q met).trans (e met)⟩
section
variable{gm:VM.GM}{T:VM.jo}{pos:VM.Pos}
theorem gX.EA(K:gX gm T pos){n:Nat}(h:(VM.bL gm pos n).isSome=true):n<nN T:=by
 unfold VM.bL at h;unfold nN;have U:=K.ok.goal;have Q:=K.ok.len;by_cases c:n<=gm.length
 .lia
 rw[ae c]at h;obtain⟨x,Y⟩:=Uq.mp h;have:=(dE.mp Y).1;lia
theorem gX.U4(K:gX gm T pos){n:Nat}(h:n<nN T):(VM.bL gm pos n).isSome=true:=by
 unfold VM.bL;unfold nN at h;have Y:=K.ok.goal;have U:=K.ok.len;by_cases c:n<=gm.length
 .rw[ag c];rfl
 rw[ae c,cu ao];rfl
theorem YZ(K:gX gm T pos){os:List VM.Off}(h:os.length<=24){n met:Nat}{p:Nat×Nat}(e:vl gm T pos os n met=some p):p.2<18446744073709551616:=VM.Z4 K.ok K.w3 (by rw[<-K.ok.goal];exact K.g8) h e
theorem SH(K:gX gm T pos)(os:List VM.Off)(met:Nat):vl gm T pos os T.goal met=VM.EN T.all [] [] os met:=by
 unfold vl VM.bY VM.bL;dsimp only;rw[ag (by rw[K.ok.goal];exact bD _)]
 dsimp only;rw[VM.CN,K.ok.goal,Gk]
theorem Sq(K:gX gm T pos){i m g a:Nat}(h:T.steps[i]?=some (m,g,a)):∃r rest,(∀os met,vl gm T pos os (T.goal+1+i) met=VM.EN T.all ((m,g)::r) rest os met)/\(∀os met,vl gm T pos os a met=VM.EN T.all r rest os met)/\a<nN T:=by
 mleft;obtain⟨r,rest,U,Y⟩:=K.ok.step i m g a h;mright;refine⟨r,rest,λos met=>?_,λos met=>?_,K.EA (by rw[Y];rfl)⟩
 .unfold vl VM.bY VM.bL;have:=K.ok.goal;dsimp only;rw[ae ao,show T.goal+1+i - gm.length - 1=i by lia,U]
  exact VM.CN _ _ _ _ _
 unfold vl VM.bY;dsimp only;rw[Y];exact VM.CN _ _ _ _ _
theorem gX.fork(K:gX gm T pos){p:Nat}(H:p<T.goal):∃bs,T.wU[p]?=some bs/\(∀b∈bs,p<b.2/\b.2<nN T)/\∀os met,vl gm T pos os p met=N7 bs (vl gm T pos os) met:=by
 have Y:p<gm.length:=by have:=K.ok.goal;lia
 mleft;obtain⟨bs,U,G,N⟩:=K.ok.fork p _ (cu Y);mright;refine⟨bs,U,λb M=>?_,λos met=>VM.K9 K.ok Y U⟩;obtain⟨i,Q⟩:=PN M;have L:=(dE.mp Q).1;mleft;obtain⟨nd,O,J,I⟩:=N i _ (cu ao);mright;rw[Q]at O;have:b.2=nd:=by rw[cp O]
 rw[this];exact⟨I,K.EA (by rw[J];rfl)⟩
end
def MD(K:W.Frag)(t:Ad):Sp:=λvs H Q _=>X7 λ(U:Addr) (N:V) (O:Hp) (gm:VM.GM) (T:VM.jo) (Y:VM.Pos) (os:List VM.Off)=>Y7 (vs=[.ref U,N]) (aw O H) (O U=none) (gq t O N T) (gX gm T Y) (nL T.all (nN T) T.goal (vl gm T Y os) H U) (∀H',aw O H'->nL T.all (nN T) 0 (vl gm T Y os) H' U->Q .aX H')
theorem Ca(T:Txt K mg t):aM P w K mg base bX 6 t.AL t.ui ["table","track"] (MD K t):=by
 refine T.n9.ok BP (λvs H Q E h=>?_) (λab A D s H vs Q E hr h=>?_)
 .mleft;obtain⟨N,tv,n,gm,Y,U,os,rfl,_⟩:=h;mright;rfl
 mleft;obtain⟨N,tv,n,gm,Y,U,os,rfl,l,h0,hT,C,M,k⟩:=h;mright;mleft;obtain⟨x,dx,sv,g,rfl,f,h2,fx,fs,rfl,B,z⟩:=id hT.ex;mright;refine⟨_,ak (cz cO rfl (Wk ay T.dG (aa (bh yI (aF T.bU T.dR (pv 1)) (ax)) (aa (uZ sW (ax)) (aa (uZ sW (ax)) ai)))) (aE (i:=2) BP.nd rfl aI) (ak (ID (aB (IF T) aN ay T.IZ T.qb.kp (JQ T) .nil aC (aa (aS (bF K) (aF T.bU T.j3 (pv 1)) (pv 2) (λ_ _=>rfl)) (aa (pv 0) ai))) (Ho (pv 0) (pv 2) set_list)))),?_⟩;cbv;refine acf (m:=Y.goal) (H1:=H) (λR q=>by have zz:=l _ _ f;cbv;exact q) (by have:=C.g8;lia) (λi σ H'=>(∃u,σ=[some (.ref N),some (.ref x),u])/\aw n H'/\nL Y.all (nN Y) (Y.goal - i) (vl gm Y U os) H' N)
  ⟨by exact fK,l,M⟩ (λi σ H' hi p=>?_) (λσ H' p=>?_)
 .mleft;obtain⟨⟨u,rfl⟩,O,e,G,d,g3⟩:=p;mright;mleft;obtain⟨bs,b1,b2,b3⟩:=C.fork (p:=Y.goal - 1 - i) ao;mright;obtain⟨g,r,o⟩:=z.get' b1;have al:=O _ _ f;cbv;refine⟨_,_,.of (O _ _ B),bE r,?_⟩;refine⟨g,N,e,bs,Y.all,vl gm Y U os,rfl,gb.same O o,G,λb hb=>g3 b.2 (by have:=(b2 b hb).1;lia) (b2 b hb).2,C.wZ,λv H2 L hE=>?_⟩
  cbv;have J:Y.goal - 1 - i<e.length:=by rw[d];unfold nN;lia
  refine⟨N,_,_,Y.goal - 1 - i,rfl,rfl,L _ _ G,yE J,?_⟩;refine⟨by exact fK,aq.dJ (O.trans L) aq.upd h0,_,af,by rw[HC];exact d,λj a b=>?_⟩
  by_cases c:j=Y.goal - 1 - i
  .subst c;exact⟨v,Bs J,(hE.cg λmet=>(b3 os met).symm).dN aq.upd (L _ _ G)⟩
  obtain⟨y,e1,e2⟩:=g3 j ao b;refine⟨y,?_,(e2.same L).dN aq.upd (L _ _ G)⟩;rw[G5 (bq c)];exact e1
 mleft;obtain⟨⟨u,rfl⟩,O,I⟩:=p;mright;rw[Nv]at I;cbv;exact k H' O I
def OG(i:Nat)(ys:List V)(A:Hp):Prop:=ys.length=i/\ys.Nodup/\∀y∈ys,∃d,y=.ref d/\A d=some (.dK [])
theorem OG.next{i:Nat}{ys:List V}{H1:Hp}{D p:Addr}(h:OG i ys (nw (upd H1 D (.lst [])) H'))(Y:H' p=none)(T:H' D≠none)(s:aw H1 H'):OG (i+1) (ys++[.ref p]) (nw (upd H1 D (.lst [])) (upd H' p (.dK []))):=by
 obtain⟨Q,O,U⟩:=h;have N:p≠D:=λe=>T (e▸Y);refine⟨by rw[ee,Q];rfl,?_,λy M=>?_⟩
 .rw[Hw];refine⟨O,by simp,λa L b J=>?_⟩
  obtain⟨d,rfl,q⟩:=U a L;rw[oK.mp J];intro e;rw[V.ref.inj e]at q;have:=(mI q).2;rw[Y]at this;cases this
 rcases lV.mp M with q|q
 .obtain⟨d,e,q⟩:=U y q;exact⟨d,e,Bt (au Y) _ _ q⟩
 refine⟨p,oK.mp q,dm ?_ af⟩;rw[aj N];exact s.free Y
def MI(t:Ad):Sp:=λvs H Q _=>X4 λ(O:V) (gm:VM.GM) (T:VM.jo) (Y:VM.Pos)=>Y4 (vs=[O]) (gq t H O T) (gX gm T Y) (∀U H',H U=none->aw H H'->nL T.all (nN T) 0 (vl gm T Y []) H' U->Q (.ref U) H')
theorem SQ{gm:VM.GM}{T:VM.jo}{Y:VM.Pos}(h:gX gm T Y):nN T<=105:=by
 have:=h.g8;have:=h.s96;unfold nN;lia
theorem Mt(T:Txt K mg t):aM P w K mg base bX 8 t.Ar t.t7 ["track"] (MI t):=by
 refine T.tS.ok uB (λvs H Q E h=>?_) (λaL A o s H vs Q E hr h=>?_)
 .mleft;obtain⟨tv,gm,Y,I,rfl,_⟩:=h;mright;rfl
 mleft;obtain⟨tv,gm,Y,I,rfl,hT,v,k⟩:=h;mright;have hu:=sk hr;have av:=SQ v;mleft;obtain⟨x,dx,sv,fv,rfl,h1,⟨sa,ss,rfl,l,j⟩,a0⟩:=id hT.ex;mright;refine⟨_,ah (ka (i:=1) rfl uB.nd rfl rfl (kU rfl rfl rfl rfl) (eL ay T.dG (aa (b5 (pv 0) T.bU T.ll (lj T) aN (lh T) .nil aC) ai)) (b6 (own:=[("node",2)]) ay) (λ_ _ _ _ _=>(aE (i:=2) uB.nd rfl aI)) (λ_ _ _ _ _=>cW) (λ_ _ _ _ _=>(rq)))
  (ah (Ez hu (aS (bF K) (pv 1) (aF T.bU T.dR (pv 0)) (λ_ _=>rfl)) (aF T.bU T.kf (pv 0)) (jL (aa (ax) (aa (ax) ai))) rfl)
  (ah (b8 (aB (Ca T) aN ay T.Bw T.n9.kp (Bx T) .nil aC (aa (pv 1) (aa (pv 0) ai))))
  (ak (aK (pv 1))))),?_⟩
 cbv;refine Tn (n:=(nN Y:Nat)) (H1:=H) (λR q=>by cbv;exact⟨rfl,x,dx,sa,_,Y.goal,_,ss,rfl,h1,l,by rw[j.1];exact q⟩) ao ao OG ⟨rfl,.nil,λy hy=>by simp at hy⟩ (λD i H' hD hi p=>?_) (λu H1 M p=>?_)
 .mleft;obtain⟨G,ys,U,e⟩:=p;mright;cbv;intro p f;refine dW.next hD (G.trans (au f)) (au f _ _ U) ?_ (e.next f (by rw[U];simp) G)
  rw[e.1];exact eE (show i<105 by lia) aG
 mleft;obtain⟨G,ys,U,b,e2,e3⟩:=p;mright;rw[nc]at b;have C:=G _ _ h1;have hg:Y.goal<ys.length:=by rw[b];unfold nN;lia
 obtain⟨dg,L,N⟩:=e3 _ (xJ hg);have ab:ys[Y.goal]?=some (.ref dg):=by rw[cu hg,L]
 have O:=cP _ _ N;cbv;refine⟨aG,λq hq=>?_⟩;have J:aw H1 (upd H1 q (.tup [.int 0,.int 1])):=au hq;cbv;have zz:=J _ _ C;cbv;refine⟨_,_,.of (J _ _ U),bE ab,?_⟩;cbv;have zz:=J _ _ C;cbv;refine⟨_,mE.k (k:=tQ Y.all) (J _ _ O) aG,?_⟩;have al:H dg=none:=by
  have:=(mI N).1;by_cases c:dg=u
  .rw[c];exact M
  rw[aj c]at this;exact this
 have am:u≠dg:=λe=>by rw[e,O]at U;cases U
 have nq:q≠dg:=λe=>by rw[e,O]at hq;cases hq
 cbv;refine⟨u,.ref x,H,gm,Y,I,[],rfl,aq.dJ (G.trans J) aq.upd al,M,hT,v,⟨ys,by rw[aj am];exact J _ _ U,b,λi a1 an=>?_⟩,λH2 s3 ap=>?_⟩
 .have B:i<ys.length:=by lia
  refine⟨_,cu B,?_⟩;by_cases c:i=Y.goal
  .subst c;refine⟨dg,[(Y.all,(0,1))],L,⟨_,af,?_⟩,⟨by simp,λk hk=>?_⟩,λmet=>?_⟩
   .refine Paired.cons ⟨rfl,q,rfl,?_⟩ .nil;rw[aj nq];exact af
   .simp at hk;lia
   rw[SH v,VM.Q4];unfold VM.look VM.look;by_cases c:met=Y.all
   .rw[ag c,ag c.symm]
   rw[ae c,ae (bq c)]
  obtain⟨d,z,ar⟩:=e3 _ (xJ B);have nd:d≠dg:=λe=>c (by
   have:ys[i]=ys[Y.goal]:=by rw[z,L,e]
   exact(UY e2).mp this)
  refine⟨d,[],z,⟨[],by rw[aj nd];exact J _ _ (cP _ _ ar),.nil⟩,.nil,λmet=>?_⟩
  have hj:i - Y.goal - 1<Y.steps.length:=by unfold nN at an;lia
  mleft;obtain⟨r,rest,v1,v2,v3⟩:=Sq v (i:=i - Y.goal - 1) (m:=Y.steps[i - Y.goal - 1].1) (g:=Y.steps[i - Y.goal - 1].2.1) (a:=Y.steps[i - Y.goal - 1].2.2) (by rw[cu hj])
  mright;rw[show Y.goal+1+(i - Y.goal - 1)=i by lia]at v1
  rw[v1,VM.Q8];rfl
 cbv;exact k u H2 M s3 ap
def Ig(t:Ad):Sp:=λvs H Q _=>X8 λ(O N:V) (M:Addr) (o:VM.Off) (os:List VM.Off) (gm:VM.GM) (T:VM.jo) (Y:VM.Pos)=>Y8 (vs=[O,.ref M,N]) (bw t H O o) (o.tk.length=4) (o.pr.length=4) (gq t H N T) (gX gm T Y) (nL T.all (nN T) 0 (vl gm T Y os) H M) (∀U H',H U=none->aw H H'->nL T.all (nN T) 0 (vl gm T Y (o::os)) H' U->Q (.ref U) H')
theorem HK(T:Txt K mg t):aM P w K mg base bX 8 t.vJ t.qr ["offer","later","track"] (Ig t):=by
 refine T.pD.ok gj (λvs H Q E h=>?_) (λa3 A an s H vs Q E hr h=>?_)
 .mleft;obtain⟨ov,tv,lx,o,os,gm,Y,M,rfl,_⟩:=h;mright;rfl
 mleft;obtain⟨ov,tv,lx,o,os,gm,Y,M,rfl,hO,ap,ar,hT,U,B,k⟩:=h;mright;have a1:=SQ U;mleft;obtain⟨x,dx,sv,fv,rfl,h1,⟨sa,ss,rfl,z,u⟩,a4⟩:=id hT.ex;mright;mleft;obtain⟨ds,l,a5,f⟩:=id B;mright;refine⟨_,ah (ka (i:=3) rfl gj.nd rfl rfl (kU rfl rfl rfl rfl) (eL ay T.dG (aa (bh dq (aF T.bU T.dR (pv 2)) (ax)) ai)) (b6 (own:=[("fork",7)]) ay) (λ_ _ _ _ _=>(aE (i:=7) gj.nd rfl aI)) (λ_ _ _ _ _=>cW) (λ_ _ _ _ _=>(rq)))
  (ah (cz cO rfl (gB ay T.c7 (aa (aF T.bU T.jY (pv 2)) ai)) (gk K 2 rfl (bu (aE (i:=4) gj.nd rfl aI) (bu (aE (i:=5) gj.nd rfl aI) d9))) (ah (aH (i:=6) gj.nd rfl aI (aS (bF K) (pv 1) (bh dq (bh dq (aF T.bU T.dR (pv 2)) (ax)) (pv 4)) (λ_ _=>rfl)))
  (ak (b8 (lI jC oj oh fJ (pv 3) (aa (aB (Hv T) aN ay T.JA T.pH.kp (Ja T) .nil aC (aa (pv 5) (aa (pv 0) (aa (pv 6) (aa (aS (bF K) (pv 1) (aF T.jR T.nX (pv 5)) (λ_ _=>rfl)) (aa (aF T.bU T.kf (pv 2)) ai)))))) ai))))))
  (ah (b8 (aB (Ca T) aN ay T.Bw T.n9.kp (Bx T) .nil aC (aa (pv 3) (aa (pv 2) ai))))
  (ak (aK (pv 3))))),?_⟩
 cbv;refine Tn (n:=(Y.goal+1:Nat)) (H1:=H) (λR q=>by cbv;exact q) (by have:=U.g8;lia) (by have:=U.g8;lia) OG ⟨rfl,.nil,λy hy=>by simp at hy⟩ (λD i H' hD hi p=>?_) (λd H1 L p=>?_)
 .mleft;obtain⟨C,ys,N,e⟩:=p;mright;cbv;intro p hp;refine dW.next hD (C.trans (au hp)) (au hp _ _ N) ?_ (e.next hp (by rw[N];simp) C)
  rw[e.1];have:=U.g8;exact eE (show i<105 by lia) aG
 mleft;obtain⟨C,ys,N,e1,e2,e3⟩:=p;mright;rw[nc]at e1;cbv;refine AA (a:=sa) (H1:=H1) (λR q=>by have zz:=C _ _ h1;cbv;exact q) (.of (C _ _ z)) (λi σ H'=>(∃v4 v5 v6 v7,σ=[some ov,some (.ref lx),some (.ref x),some (.ref d),v4,v5,v6,v7])/\aw H H'/\nL Y.all (Y.goal+1+i) Y.goal (vl gm Y M (o::os)) H' d)
  ⟨by exact fK,C,ys,N,e1,λi a b=>?_⟩ (λi σ H' _ p=>.of (p.2.1 _ _ z)) (λi σ H' q oq hq p=>⟨p.1,p.2.1.trans (au hq),p.2.2.same (au hq)⟩) (λi y σ H' hy p=>?_) (λσ H' p=>?_)
 .have hi:i=Y.goal:=by lia
  subst hi;have hg:Y.goal<ys.length:=by lia
  obtain⟨dg,av,ab⟩:=e3 _ (xJ hg);refine⟨_,cu hg,dg,[],av,⟨[],cP _ _ ab,.nil⟩,.nil,λmet=>?_⟩;rw[SH U,VM.ON];rfl
 .mleft;obtain⟨⟨v4,v5,v6,v7,rfl⟩,O,ts,g1,g2,g3⟩:=p;mright;mleft;obtain⟨⟨m,g,a⟩,J,al⟩:=u.get hy;mright;mleft;obtain⟨r,rest,w1,w2,w3⟩:=Sq U J;mright;have a6:=(dE.mp J).1;obtain⟨y1,f1,F1⟩:=f (Y.goal+1+i) (dy _) (by unfold nN;lia)
  obtain⟨y2,f2,F2⟩:=f a (dy _) w3;have a7:=O _ _ h1;mleft;obtain⟨sx,a8,rfl,aL⟩:=id al;mright;have a2:=O _ _ aL;cbv;refine⟨_,_,.of (O _ _ l),bE (j:=Y.goal+1+i) f1,?_⟩;cbv;refine⟨sN g1,?_⟩;cbv;refine⟨_,_,.of (O _ _ l),bE f2,?_⟩;cbv;refine⟨.ref sx,ov,y1,y2,m,g,a,Y.all,o,_,_,rfl,al.same O,bw.same O hO,F1.same O,F2.same O,U.wZ,U.mem _ _ _ _ J,ap,ar,λv H3 I hE=>?_⟩;refine iW (I _ _ g1) (by rw[g2];have:=U.g8;have:=U.s96;exact eE (show _<106 by lia) aG) λH4 bt h4=>?_
  have G:aq d H3 H4:=λb ob n q=>(bt b n).trans q;refine⟨by exact fK,aq.dJ (O.trans I) G L,_,h4,by rw[ee,g2];rfl,λj ja jb=>?_⟩
  by_cases c:j=Y.goal+1+i
  .subst c;refine⟨v,by rw[oC ao,g2,Nv];rfl,(hE.cg λmet=>?_).dN G (I _ _ g1)⟩
   rw[w1,VM.aal];unfold NA;rw[w1,w2]
  obtain⟨y,u1,u2⟩:=g3 j ja ao;refine⟨y,?_,(u2.same I).dN G (I _ _ g1)⟩;rw[uq ao];exact u1
 mleft;obtain⟨⟨v4,v5,v6,v7,rfl⟩,O,am⟩:=p;mright;rw[u.1]at am;cbv;refine⟨d,.ref x,H,gm,Y,M,o::os,rfl,O,L,hT,U,am,λH3 I a0=>?_⟩;cbv;exact k d H3 L I a0
def TabsAt(gm:VM.GM)(T:VM.jo)(Y:VM.Pos)(os:List VM.Off)(H:Hp)(r:Addr):Prop:=∃ts,Y3 (H r=some (.lst ts)) (ts.length=os.length+1) (∀j,j<=os.length->∃U,ts[j]?=some (.ref U)/\nL T.all (nN T) 0 (vl gm T Y (os.drop j)) H U)
theorem TabsAt.same{gm:VM.GM}{T:VM.jo}{Y:VM.Pos}{os:List VM.Off}{H:Hp}{r:Addr}(s:aw H H')(h:TabsAt gm T Y os H r):TabsAt gm T Y os H' r:=by
 mleft;obtain⟨ts,U,Q,O⟩:=h;mright;refine⟨ts,s _ _ U,Q,λj N=>?_⟩;obtain⟨M,L,J⟩:=O j N;exact⟨M,L,J.same s⟩
def OU(os:List VM.Off):Prop:=os.length<=24/\∀o∈os,o.tk.length=4/\o.pr.length=4
def F4(t:Ad):Sp:=λvs H Q _=>X6 λ(Y O:V) (os:List VM.Off) (gm:VM.GM) (T:VM.jo) (U:VM.Pos)=>Y6 (vs=[Y,O]) (aV (bw t) H Y os) (OU os) (gq t H O T) (gX gm T U) (∀r H',H r=none->aw H H'->TabsAt gm T U os H' r->Q (.ref r) H')
theorem oE(T:Txt K mg t):aM P w K mg base bX 10 t.t4 t.oy ["offers","track"] (F4 t):=by
 refine T.ib.ok oO (λvs H Q E h=>?_) (λa1 A ab s H vs Q E hr h=>?_)
 .mleft;obtain⟨al,f,os,gm,D,U,rfl,_⟩:=h;mright;rfl
 mleft;obtain⟨al,f,os,gm,D,U,rfl,am,hL,hT,hK,k⟩:=h;mright;mleft;obtain⟨ox,a2,rfl,C,L⟩:=id am;mright;refine⟨_,ah (aH (i:=2) oO.nd rfl aI (dt (aa (aB (Mt T) aN ay T.MF T.tS.kp (MC T) .nil aC (aa (pv 1) ai)) ai)))
  (ah (cz cO rfl (QT ay T.Ra (aa (pv 0) ai)) (aE (i:=3) oO.nd rfl aI) (ak (b8 (lI jC oj oh fJ (pv 2) (aa (aB (HK T) aN ay T.Ir T.pD.kp (Ie T) .nil aC (aa (pv 3) (aa (aS (bF K) (pv 2) (uZ sW (ax)) (λ_ _=>rfl)) (aa (pv 1) ai)))) ai)))))
  (ah (b8 (VD jC PySem.F.slot_list_reverse PySem.F.type_list_reverse TM (pv 2)))
  (ak (aK (pv 2))))),?_⟩
 cbv;refine⟨f,gm,D,U,rfl,hT,hK,λd H1 a3 s1 B=>?_⟩;cbv;refine⟨aG,λr J=>?_⟩;have I:H r=none:=s1.free J;have s2:aw H1 (upd H1 r (.lst [.ref d])):=au J;have an:d≠r:=λe=>by obtain⟨ds,q,_⟩:=B;rw[e,J]at q;cases q
 cbv;refine acS (a:=ox) (H1:=upd H1 r (.lst [.ref d])) (λR q=>by cbv;exact q) (.of (s2 _ _ (s1 _ _ C))) (λi σ H'=>(∃v3,σ=[some (.ref ox),some f,some (.ref r),v3])/\aw H H'/\∃ts,H' r=some (.lst ts)/\ts.length=i+1/\∀j,j<=i->∃N,ts[j]?=some (.ref N)/\N≠r/\nL D.all (nN D) 0 (vl gm D U (os.drop (os.length - j))) H' N)
  ⟨by exact fK,s1.trans s2,_,af,rfl,λj hj=>?_⟩ (λi σ H' _ p=>.of (p.2.1 _ _ C)) (λi y σ H' hi hy p=>?_) (λσ H' p=>?_)
 .have:j=0:=by lia
  subst this;refine⟨d,rfl,an,?_⟩;rw[NJ,Gk];exact B.same s2
 .mleft;obtain⟨⟨v3,rfl⟩,z,ts,Y,M,v⟩:=p;mright;obtain⟨o,O,hO⟩:=L.get hy;rw[L.1]at O hi;mleft;obtain⟨lx,u1,u2,u3⟩:=v i (bD _);mright;have ap:ts=ts.take i++[.ref lx]:=by
   rw[<-bo u1,<-M,eG]
  cbv;refine⟨sN Y,?_⟩;refine⟨_,_,.of Y,(by rw[ap];exact Ow _ _),?_⟩
  cbv;obtain⟨ar,av⟩:=hL.2 o (cI O);refine⟨y,f,lx,o,_,gm,D,U,rfl,bw.same z hO,ar,av,hT.same z,hK,u3,λN H4 u m aL=>?_⟩;have l:N≠r:=λe=>by rw[e,Y]at u;cases u
  have a4:=hL.1;refine iW (m _ _ Y) (by rw[M];exact eE (show i+1<26 by lia) aG) λH5 bt h5=>?_
  have G:aq r H4 H5:=λb ob n q=>(bt b n).trans q;refine⟨by exact fK,aq.dJ (z.trans m) G I,_,h5,by rw[ee,M];rfl,λj hj=>?_⟩
  by_cases c:j=i+1
  .subst c;refine⟨N,by rw[oC ao,M,Nv];rfl,l,?_⟩
   have:os.drop (os.length - (i+1))=o::os.drop (os.length - i):=by
    have g:os.length - 1 - i<os.length:=by lia
    rw[show os.length - (i+1)=os.length - 1 - i by lia,xI g,show os.length - 1 - i+1=os.length - i by lia]
    rw[cu g]at O;rw[cp O]
   rw[this];exact aL.dN G (m _ _ Y) l
  mleft;obtain⟨a0,e1,e2,e3⟩:=v j ao;mright;refine⟨a0,?_,e2,(e3.same m).dN G (m _ _ Y) e2⟩;rw[uq ao];exact e1
 mleft;obtain⟨⟨v3,rfl⟩,z,ts,Y,M,v⟩:=p;mright;rw[L.1]at M v;cbv;refine⟨sN Y,r,ts,rfl,rfl,Y,?_⟩;have sx:aq r H' (upd H' r (.lst ts.reverse)):=aq.upd;cbv;refine k r _ I (aq.dJ z sx I) ⟨_,af,by rw[Zu];exact M,λj hj=>?_⟩
 mleft;obtain⟨N,e1,e2,e3⟩:=v (os.length - j) (Nat.sub_le _ _);mright;refine⟨N,?_,?_⟩
 .rw[List.getElem?_reverse ao,M,show os.length+1 - 1 - j=os.length - j by lia]
  exact e1
 rw[show os.length - (os.length - j)=j by lia]at e3
 exact e3.dN sx Y e2
def Q1(K:W.Frag)(t:Ad):Sp:=λvs H Q _=>X5 λ(r:Addr) (os:List VM.Off) (gm:VM.GM) (T:VM.jo) (Y:VM.Pos)=>Y3 (vs=[.ref r]) (TabsAt gm T Y os H r) (∀v,((vl gm T Y os 0 0=none/\v=.aX)\/∃p,vl gm T Y os 0 0=some p/\fO H v p)->Q v H)
theorem sI(T:Txt K mg t):aM P w K mg base bX 2 t.GF t.yk ["tables"] (Q1 K t):=by
 refine T.kW.ok Rz (λvs H Q E h=>?_) (λN A Y s H vs Q E hr h=>?_)
 .mleft;obtain⟨r,os,gm,M,U,rfl,_⟩:=h;mright;rfl
 mleft;obtain⟨r,os,gm,M,U,rfl,⟨ts,L,l,J⟩,k⟩:=h;mright;have I:=sk hr;mleft;obtain⟨i,G,g,C,f,B⟩:=J 0 (dy _);mright;mleft;obtain⟨y,z,d,D,rfl,u,e,O⟩:=B 0 (dy _) (by unfold nN;lia)
 mright;refine⟨_,ak (aK (AQ I (aS (bF K) (aS (bF K) (pv 0) (ax) (λ_ _=>rfl)) (ax) (λ_ _=>rfl)) (ax) ⟨rfl,rfl,rfl,rfl⟩)),?_⟩;cbv;refine⟨_,_,.of L,bE (j:=0) G,?_⟩;refine⟨_,_,.of C,bE (j:=0) z,?_⟩;mleft;obtain⟨o,q,n,m⟩:=u.get 0;mright;cbv;refine⟨q,o,n,k _ ?_⟩;rw[EV]at O;rw[<-O];rcases m with⟨a,rfl⟩|⟨p,v,a,rfl,b⟩
 .exact .inl ⟨a,rfl⟩
 exact .inr ⟨p,a,b⟩
end
end
section
variable{H':Hp}
section
section
variable{κ κ':Type}[DecidableEq κ][DecidableEq κ']{enc:κ->κ'}
theorem Sj(inj:∀a b,enc a=enc b->a=b){R:V->Nat×Nat->Prop}{k:κ}:∀{Y:List (κ'×V)} {D:VM.DL κ},yW enc R Y D->(D.map (·.1)).Nodup->yW enc R (gh Y (enc k)) (VM.iU k D)
 |_,_,.nil,_=>.nil
 |(j,v)::Y,(T,q)::D,.cons r t,U=>by
  rw[bM,qD]at U;unfold VM.iU;by_cases e:T=k
  .have Q:(j,v).1=enc k:=by rw[<-e];exact r.1
   rw[ag e,Vo Q,Qh]
   .exact t
   rw[KY t];intro h;obtain⟨a,O,N⟩:=bS.mp h;exact U.1 (by rw[e,<-inj _ _ N];exact O)
  have M:¬(j,v).1=enc k:=λz=>e (inj _ _ ((show j=enc T from r.1).symm.trans z));rw[ae e,Ml M];exact .cons r (Sj inj t U.2)
end
theorem fh.dN{H:Hp}{d x:Addr}{D:VM.DL (Nat×Nat)}(s:aq x H H')(U:d≠x)(T:∀xs,H x≠some (.tup xs))(h:fh H d D):fh H' d D:=by
 obtain⟨Y,Q,O⟩:=h;exact⟨Y,s _ _ U Q,O.imp λv p q=>q.dN s T⟩
structure mV(T:VM.jo)(F:VM.DL (Nat×Nat)):Prop where
 nd:(F.map (·.1)).Nodup
 at_:∀k∈F.map (·.1),k.1<nN T/\k.2<=T.all
section
variable{gm:VM.GM}{T:VM.jo}{pos:VM.Pos}
theorem mV.of(K:gX gm T pos){p m:Nat}{F:VM.DL (Nat×Nat)}(h:VM.iO gm pos T.all p m F):mV T F:=⟨h.nd,λk Y=>⟨K.EA (h.at_ k Y).1,(h.at_ k Y).2.1⟩⟩
theorem mV.size(K:gX gm T pos){F:VM.DL (Nat×Nat)}(h:mV T F):F.length<sizeLine:=by
 have I:=SQ K;have H:=K.wZ;have e:((F.map (·.1)).map λk:Nat×Nat=>k.1*16+k.2).Nodup:=Nr.mpr (h.nd.imp_of_mem λ{a b} Y U n q=>n (by
  have Y:=(h.at_ a Y).2;have U:=(h.at_ b U).2;obtain⟨Q,O⟩:=a;obtain⟨N,M⟩:=b;dsimp only at *;rw[show Q=N by lia,show O=M by lia]))
 have:=IU 1680 _ e λx L=>by
  obtain⟨k,J,rfl⟩:=bS.mp L;have:=h.at_ k J;lia
 rw[bG,bG]at this;exact d8 this aG
theorem mV.add{F:VM.DL (Nat×Nat)}{k:Nat×Nat}{c n:Nat}(h:mV T F)(Y:k.1<nN T)(U:k.2<=T.all):mV T (VM.dY k c n F):=⟨VM.uT h.nd,λx Q=>by
 rcases VM.zX.mp Q with q|q
 .exact h.at_ x q
 rw[q];exact⟨Y,U⟩⟩
theorem mV.drop{F:VM.DL (Nat×Nat)}{k:Nat×Nat}(h:mV T F):mV T (VM.iU k F):=⟨VM.yd k F h.nd,λx Y=>h.at_ x ((VM.uR k F h.nd x).mp Y).1⟩
end
def z0(K:W.Frag)(t:Ad):Sp:=λvs H Q _=>X7 λ(d:Addr) (N:V) (U:Hp) (gm:VM.GM) (T:VM.jo) (Y:VM.Pos) (F:VM.DL (Nat×Nat))=>Y8 (vs=[.ref d,N]) (aw U H) (U d=none) (gq t U N T) (gX gm T Y) (fh H d F) (VM.iO gm Y T.all 0 0 F) (∀H' O,aw U H'->fh H' d O->VM.iO gm Y T.all T.goal 0 O->(∀P os,VM.fsum (VM.bY gm T.all Y P os) O=VM.fsum (VM.bY gm T.all Y P os) F)->Q (.ref d) H')
theorem qt(T:Txt K mg t):aM P w K mg base bX 4 t.nu t.kK ["front","track"] (z0 K t):=by
 refine T.gU.ok fu (λvs H Q E h=>?_) (λa5 A av s H vs Q E hr h=>?_)
 .mleft;obtain⟨d,tv,H0,gm,U,Y,F,rfl,_⟩:=h;mright;rfl
 mleft;obtain⟨d,tv,H0,gm,U,Y,F,rfl,s0,h0,hT,J,hD,aL,k⟩:=h;mright;have hu:=sk hr;have a4:=J.wZ;have a6:=J.g8;mleft;obtain⟨x,dx,sv,fv,rfl,h1,h2,fx,fs,rfl,a0,a1⟩:=id hT.ex;mright;refine⟨_,ah (cz cO rfl (eL ay T.dG (aa (aF T.bU T.dR (pv 1)) ai)) (aE (i:=2) fu.nd rfl aI) (ak (cz cO rfl (eL ay T.dG (aa (bh dq (aF T.bU T.kf (pv 1)) (ax)) ai)) (aE (i:=3) fu.nd rfl aI) (ah (aH (i:=4) fu.nd rfl aI (Xc hu (pv 0) (jL (aa (pv 2) (aa (pv 3) ai))) (jc) ⟨rfl,rfl,rfl,rfl⟩))
  (ak (bZ (aW EK (pv 4) (jc) (aR _)) (ak (cz cO rfl (dc (aS (bF K) (aF T.bU T.j3 (pv 1)) (pv 2) (λ_ _=>rfl))) (aE (i:=5) fu.nd rfl aI) (ak (b8 (aB (pM T) aN ay T.pw T.jI.kp (qp T) .nil aC (aa (pv 0) (aa (jL (aa (aS (bW K) (pv 5) (ax) (λ_ _=>rfl)) (aa (pv 3) ai))) (aa (bh dq (aS (bW K) (pv 4) (ax) (λ_ _=>rfl)) (aS (bW K) (pv 5) (ax) (λ_ _=>rfl))) (aa (aS (bW K) (pv 4) (ax) (λ_ _=>rfl)) ai))))))))) bp))))))
  (ak (aK (pv 0))),?_⟩
 cbv;refine JR (n:=(U.goal:Nat)) (H1:=H) (λR q=>by have zz:=s0 _ _ h1;cbv;exact q) ao ao (λi σ H'=>(∃v2 D C O,σ=[some (.ref d),some (.ref x),v2,D,C,O])/\aw H0 H'/\∃B,fh H' d B/\VM.iO gm Y U.all i 0 B/\∀P os,VM.fsum (VM.bY gm U.all Y P os) B=VM.fsum (VM.bY gm U.all Y P os) F)
  ⟨by exact fK,s0,F,hD,aL,λ_ _=>rfl⟩ (λi σ H' hi p=>?_) (λσ H' p=>?_)
 .mleft;obtain⟨⟨v2,D,C,O,rfl⟩,s1,F1,g1,g2,g3⟩:=p;mright;rw[nc]at hi;have ab:i<gm.length:=by have:=J.ok.goal;lia
  mleft;obtain⟨bs,b1,b2,b3⟩:=J.fork (p:=i) hi;mright;mleft;obtain⟨fv,a2,bx,a7,rfl,al,am⟩:=a1.get' b1;mright;cbv;refine JR (n:=(U.all:Int)+1) (H1:=H') (λR q=>by have zz:=s1 _ _ h1;cbv;exact q) ao ao (λj σ H'=>(∃D C O,σ=[some (.ref d),some (.ref x),some (.int i),D,C,O])/\aw H0 H'/\∃B,fh H' d B/\VM.iO gm Y U.all i j B/\∀P os,VM.fsum (VM.bY gm U.all Y P os) B=VM.fsum (VM.bY gm U.all Y P os) F)
   ⟨by exact fK,s1,F1,g1,g2,g3⟩ (λj σ u hj p=>?_) (λσ u p=>?_)
  .mleft;obtain⟨⟨D,C,O,rfl⟩,s2,F2,⟨N,I,r⟩,u2,u3⟩:=p;mright;have an:j<=U.all:=by lia
   have M:=VM.PD J.ok ab an b1 u2;have ap:∀P os,VM.fsum (VM.bY gm U.all Y P os) (VM.mP bs i j F2)=VM.fsum (VM.bY gm U.all Y P os) F:=λP os=>(VM.Oo J.ok ab b1 F2).trans (u3 P os);have hw:=mV.of J u2;cbv;refine⟨.inr ⟨_,.inl I⟩,aG,λq hq=>?_⟩;have sq:aw u (upd u q (.tup [.int i,.int j])):=au hq;have nq:d≠q:=λe=>by rw[<-e,I]at hq;cases hq
   obtain⟨w1,w2⟩:=DE (λa b=>AR) (k:=(i,j)) r;refine⟨N,sq _ _ I,l5 (i,j),af,λv L=>?_,λL=>?_⟩
   .cases o:VM.look (i,j) F2 with
    |none=>rw[w1 o]at L;cases L
    |some p =>
     mleft;obtain⟨v',e1,px,e2,hp⟩:=w2 p o;mright;rw[e1]at L;have L:=cp L;subst L;subst e2;have np:px≠d:=λe=>by rw[e,I]at hp;cases hp
     have m:VM.mP bs i j F2=bs.foldl (λF b=>VM.dY (b.2,j) (p.1+b.1) p.2 F) (VM.iU (i,j) F2):=by unfold VM.mP;rw[o]
     rw[m]at M ap;cbv;rw[ag aP];cbv;have s3:aq d u (upd (upd u q (.tup [.int i,.int j])) d (.dT (gh N (l5 (i,j))))):=(aq.of sq).trans aq.upd;have s4:=aq.dJ s2 s3 h0;have d4:fh (upd (upd u q (.tup [.int i,.int j])) d (.dT (gh N (l5 (i,j))))) d (VM.iU (i,j) F2):=⟨_,af,(Sj (λa b=>AR) r u2.nd).imp λv p q=>q.dN s3 λxs e=>by rw[I]at e;cases e⟩
     have p4:=s3 _ _ np hp;generalize upd (upd u q (.tup [.int i,.int j])) d (.dT (gh N (l5 (i,j))))=H4 at *;refine forL (a:=bx) (H1:=H4) (λR q=>by have zz:=s4 _ _ h1;cbv;exact⟨_,_,.of (s4 _ _ a0),bE a2,q⟩) (.of (s4 _ _ al)) (λl σ H'=>(∃O,σ=[some (.ref d),some (.ref x),some (.int i),some (.int j),some (.ref px),O])/\aw H0 H'/\fO H' (.ref px) p/\fh H' d ((bs.take l).foldl (λF b=>VM.dY (b.2,j) (p.1+b.1) p.2 F) (VM.iU (i,j) F2))/\mV U ((bs.take l).foldl (λF b=>VM.dY (b.2,j) (p.1+b.1) p.2 F) (VM.iU (i,j) F2)))
      ⟨by exact fK,s4,⟨px,rfl,p4⟩,d4,hw.drop⟩ (λl σ H' _ p=>.of (p.2.1 _ _ al)) (λl y σ H' hy p=>?_) (λσ H' p=>?_)
     .mleft;obtain⟨⟨O,rfl⟩,s5,⟨a8,ep,f⟩,d5,k5⟩:=p;mright;have ep:=V.ref.inj ep;subst ep;mleft;obtain⟨b,ar,qx,rfl,a3⟩:=am.get hy;mright;have G:=s5 _ _ a3;rw[bo ar,yb,ng,NL];generalize (bs.take l).foldl (λF b=>VM.dY (b.2,j) (p.1+b.1) p.2 F) (VM.iU (i,j) F2)=FF at *;cbv;refine⟨_,_,.of G,rfl,?_⟩;cbv;refine⟨aG,λz hz=>?_⟩;have c:aw H' (upd H' z (.tup [.int b.2,.int j])):=au hz;refine⟨_,_,.of (c _ _ f),rfl,?_⟩;refine⟨_,_,.of (c _ _ G),rfl,?_⟩;cbv;refine⟨_,_,.of (c _ _ f),rfl,?_⟩;refine⟨d,.ref z,p.1+b.1,p.2,by rw[vQ],?_⟩
      have nd:∀xs,(upd H' z (.tup [.int b.2,.int j])) d≠some (.tup xs):=λxs e=>by
       obtain⟨kv,g,_⟩:=d5;rw[c _ _ g]at e;cases e
      refine SM (k:=(b.2,j)) af (d5.same c) k5.nd (k5.size J) λH7 s7 h7=>?_;refine⟨by exact fK,aq.dJ (s5.trans c) s7 h0,fO.dN s7 nd ⟨px,rfl,c _ _ f⟩,h7,k5.add (b2 b (cI ar)).2 an⟩
     mleft;obtain⟨⟨O,rfl⟩,s5,_,d5,k5⟩:=p;mright;rw[am.1,eG]at d5;exact⟨by exact fK,s5,_,d5,M,ap⟩
   have o:VM.look (i,j) F2=none:=by
    cases o:VM.look (i,j) F2 with
    |none=>rfl
    |some p =>
     obtain⟨v',e1,_⟩:=w2 p o;rw[e1]at L;cases L
   have m:VM.mP bs i j F2=F2:=by unfold VM.mP;rw[o]
   rw[m]at M;cbv;refine⟨by exact fK,s2.trans sq,F2,⟨N,sq _ _ I,r.imp λv p q=>q.same sq⟩,M,u3⟩
  mleft;obtain⟨⟨D,C,O,rfl⟩,s2,F2,I,u2,u3⟩:=p;mright;rw[show((U.all:Int)+1).toNat=U.all+1 by lia]at u2
  exact⟨by exact fK,s2,F2,I,u2.next,u3⟩
 mleft;obtain⟨⟨v2,D,C,O,rfl⟩,s1,F1,g1,g2,g3⟩:=p;mright;rw[nc]at g2;cbv;exact k H' F1 s1 g1 g2 g3
theorem bw.dN{H:Hp}{d:Addr}{Y:List (List Key×V)}{v:V}{o:VM.Off}(s:aq d H H')(hd:H d=some (.dT Y))(h:bw t H v o):bw t H' v o:=by
 mleft;obtain⟨x,O,a,b,e,U,T,Q⟩:=h;mright;exact⟨x,O,a,b,e,s _ _ (λe=>by rw[e,hd]at U;cases U) U,s _ _ (λe=>by rw[e,hd]at T;cases T) T,s _ _ (λe=>by rw[e,hd]at Q;cases Q) Q⟩
theorem eO.dN{H:Hp}{d:Addr}{Y:List (List Key×V)}{v:V}{o:Nat×Nat×Nat}(s:aq d H H')(hd:H d=some (.dT Y))(h:eO t H v o):eO t H' v o:=by
 mleft;obtain⟨x,T,e,U⟩:=h;mright;exact⟨x,T,e,s _ _ (λe=>by rw[e,hd]at U;cases U) U⟩
def Iu(K:W.Frag)(t:Ad):Sp:=λvs H Q _=>X9 λ(d:Addr) (O N:V) (v:Nat) (gm:VM.GM) (T:VM.jo) (Y:VM.Pos) (o:VM.Off) (F:VM.DL (Nat×Nat))=>Y9 (vs=[.ref d,O,.int v,N]) (fh H d F) (VM.iO gm Y T.all T.goal 0 F) (bw t H O o) (o.tk.length=4) (∀m,o.pr.getD m 0=0) (gq t H N T) (gX gm T Y) (∀d' H' U,aw H H'->fh H' d' U->VM.iO gm Y T.all T.goal 0 U->(∀P os,(o.mj=true->os≠[])->VM.fsum (VM.bY gm T.all Y P os) U=VM.fsum (VM.bY gm T.all Y (VM.hd v P) (o::os)) F)->Q (.ref d') H')
theorem iO.nil{gm:VM.GM}{Y:VM.Pos}{all p m:Nat}:VM.iO gm Y all p m []:=⟨.nil,λk U=>by simp at U⟩
theorem JB(T:Txt K mg t):aM P w K mg base bX 6 t.wz t.qE ["front","offer","value","track"] (Iu K t):=by
 refine T.pN.ok gE (λvs H Q E h=>?_) (λbi A a4 s H vs Q E hr h=>?_)
 .mleft;obtain⟨d,ov,tv,v,gm,U,G,o,F,rfl,_⟩:=h;mright;rfl
 mleft;obtain⟨d,ov,tv,v,gm,U,G,o,F,rfl,hD,aL,hO,a5,a6,hT,J,k⟩:=h;mright;have a0:=J.wZ;mleft;obtain⟨x,dx,sv,fv,rfl,h1,⟨sa,ss,rfl,ab,a7⟩,bl⟩:=id hT.ex;mright;mleft;obtain⟨ox,bm,ta,pa,rfl,D,al,bn⟩:=id hO;mright;obtain⟨am,O,a1⟩:=id hD;have hF:∀M∈F.map (·.1),(VM.bL gm G M.1).isSome=true/\U.goal<=M.1/\M.2<=U.all:=λM u=>by
  obtain⟨a,b,c⟩:=aL.at_ M u;exact⟨a,ao,b⟩
 have an:∀M∈F.map (·.1),(VM.bL gm G M.1).isSome=true/\U.goal<=M.1:=λM u=>⟨(hF M u).1,(hF M u).2.1⟩;refine⟨_,ah (bZ (aW fq (pv 2) (ax) (aR _)) (ak (aK (lY (fS (aF T.fC T.nM (pv 1)) (λ_=>rfl)) (pv 0) (Qr)))) bp)
  (ah (aH (i:=4) gE.nd rfl aI (Qr))
  (ah (yO (cz cO rfl (Lh (pv 0)) (gk K 2 rfl (bu (aE (i:=5) gE.nd rfl aI) (bu (aE (i:=6) gE.nd rfl aI) d9))) (ah (bZ (aW fq (aS (bW K) (pv 5) (ax) (λ_ _=>rfl)) (aF T.bU T.dR (pv 3)) (aR _)) (ak (FZ)) bp)
  (ah (aH (i:=7) gE.nd rfl aI (Kg (pv 3) T.bU T.wF (wm T) aN (vB T) .nil aC (aa (aS (bW K) (pv 5) (ax) (λ_ _=>rfl)) ai)))
  (ah (aH (i:=8) gE.nd rfl aI (aB (tK T) aN ay T.uh T.kM.kp (t6 T) .nil aC (aa (aS (bW K) (pv 5) (ax) (λ_ _=>rfl)) (aa (pv 7) (aa (pv 1) ai)))))
  (ak (bZ ((Ph (aW fq (aS (bF K) (aF T.fC T.jU (pv 1)) (aF T.jR T.jO (pv 7)) (λ_ _=>rfl)) (pv 2) (aR _)) (Kz (aW qw (pv 8) (cH ay T.xu) (aR _)))).pt) (ak (b8 (aB (pM T) aN ay T.pw T.jI.kp (qp T) .nil aC (aa (pv 4) (aa (jL (aa (aF T.jR T.nX (pv 7)) (aa (pv 8) ai))) (aa (aS (bW K) (pv 6) (ax) (λ_ _=>rfl)) (aa (aS (bW K) (pv 6) (ax) (λ_ _=>rfl)) ai))))))) bp)))))))
  (ak (aK (aB (qt T) aN ay T.ql T.gU.kp (qo T) .nil aC (aa (pv 4) (aa (pv 3) ai))))))),?_⟩
 cbv;by_cases c0:v=0
 .rw[ag ao];cbv;try simp only[D]
  cbv;refine⟨o.mj,rfl,?_⟩;subst c0;by_cases C:o.mj=true
  .rw[ag C];cbv;refine k d H F (.refl _) hD aL λP os B=>?_;have:=VM.Dx (all:=U.all) (P:=P) J.ok B F an;rw[ag C]at this;exact this
  rw[ae C];cbv;intro r N;refine k r _ [] (au N) ⟨[],af,.nil⟩ iO.nil λP os B=>?_;have:=VM.Dx (all:=U.all) (P:=P) J.ok B F an;rw[ae C]at this;exact this
 rw[ae ao];cbv;intro r N;have s0:aw H (upd H r (.dT [])):=au N;have nr:r≠d:=λe=>by rw[e,O]at N;cases N
 have nx:x≠d:=λe=>by rw[e,O]at h1;cases h1
 have a8:sa≠d:=λe=>by rw[e,O]at ab;cases ab
 have Ox:ox≠d:=λe=>by rw[e,O]at D;cases D
 have a9:ta≠d:=λe=>by rw[e,O]at al;cases al
 have hz:=ze a1;have Y:∀j,VM.iO gm G U.all 0 0 ((F.take j).foldl (VM.ie U o v) []):=λj=>VM.D5 J.ok J.pow J.ack (F.take j) [] (λM u=>hF M (by
  obtain⟨e,he,rfl⟩:=bS.mp u;exact bS.mpr ⟨e,Pt he,rfl⟩)) iO.nil
 cbv;refine YE (d:=d) (s0 _ _ O) (λod R q=>by cbv;exact q) (λod j σ I=>(∃v5 v6 v7 v8,σ=[some (.ref d),some (.ref ox),some (.int v),some (.ref x),some (.ref r),v5,v6,v7,v8])/\I d=some (.cV od (.dT am))/\aq d H I/\fh I r ((F.take j).foldl (VM.ie U o v) [])) (λod=>⟨by exact fK,af,(aq.of s0).trans aq.upd,[],by rw[aj nr];exact af,.nil⟩) (λod j σ H3 p=>p.2.1) (λod j σ H3 T o hT p=>⟨p.1,au hT _ _ p.2.1,p.2.2.1.trans (.of (au hT)),p.2.2.2.same (au hT)⟩) (λod j M vv b σ I u hb p=>?_) (λod σ I p=>?_)
 .mleft;obtain⟨⟨v5,v6,v7,v8,rfl⟩,q1,L,q3⟩:=p;mright;mleft;obtain⟨e,he,ek,⟨ex,ev,hex⟩⟩:=qi a1 u;mright;dsimp only at ek ev;subst ek ev;have ba:ex≠d:=λz=>by rw[z,O]at hex;cases hex
  have l:=L _ _ ba hex;have bb:e∈F:=cI he;obtain⟨i1,i2,i3⟩:=hF e.1 (bS.mpr ⟨e,bb,rfl⟩);have ap:=L _ _ nx h1;have a2:=L _ _ Ox D;have kj:=mV.of J (Y j);have ar:(F.take (j+1)).foldl (VM.ie U o v) []=VM.ie U o v ((F.take j).foldl (VM.ie U o v) []) e:=by rw[bo he,yb];rfl
  rw[ar];generalize (F.take j).foldl (VM.ie U o v) []=acc at *;cbv;refine⟨_,_,.of hb,rfl,?_⟩;cbv;try simp only[ap]
  cbv;by_cases cg:e.1.1=U.goal
  .rw[ag (by show((e.1.1:Int)=_);lia)]
   cbv;have ef:VM.ie U o v acc e=acc:=by unfold VM.ie;rw[ag cg]
   rw[ef];exact⟨by exact fK,q1,L,q3⟩
  rw[ae (by show ¬((e.1.1:Int)=_);lia)]
  cbv;mleft;obtain⟨m,g,a,rr,rest,av,br,bt⟩:=VM.kR J.ok i1 ao;mright;obtain⟨y,hy,bc⟩:=a7.get' av;have f:eO t I y (m,g,a):=bc.dN L O;have bd:bw t I (.ref ox) o:=hO.dN L O;try simp only[ap]
  cbv;refine⟨rfl,_,_,.of hb,rfl,?_⟩;refine⟨x,dx,sa,_,U.goal,e.1.1,_,ss,y,rfl,ap,L _ _ a8 ab,ao,hy,?_⟩;cbv;refine⟨_,_,.of hb,rfl,?_⟩;cbv;refine⟨e.1.2,y,.ref ox,(m,g,a),o,rfl,f,bd,?_⟩;mleft;obtain⟨sx,bv,rfl,a3⟩:=id f;mright;cbv;try simp only[a2,a3]
  cbv;refine⟨_,_,.of (L _ _ a9 al),bE (getD_at a5 (J.mem _ _ _ _ av)),?_⟩;cbv;try simp only[kr]
  cbv;have be:U.steps.getD (e.1.1 - U.goal - 1) (0,0,0)=(m,g,a):=by rw[dU,av];rfl
  have ef:VM.ie U o v acc e=if o.tk.getD m 0=v/\VM.bQ e.1.2 g o.we<16 then VM.dY (a,VM.bQ e.1.2 g o.we) e.2.1 e.2.2 acc else acc:=by
   unfold VM.ie;rw[ae cg];cbv;simp only[be]
  rw[ef];have no:¬(o.tk.getD m 0=v/\VM.bQ e.1.2 g o.we<16)->fh I r (if o.tk.getD m 0=v/\VM.bQ e.1.2 g o.we<16 then VM.dY (a,VM.bQ e.1.2 g o.we) e.2.1 e.2.2 acc else acc):=λn=>by
   rw[ae n];exact q3
  by_cases c1:o.tk.getD m 0=v
  .by_cases c2:VM.bQ e.1.2 g o.we<16
   .rw[ag ao];cbv;rw[ag (show((VM.bQ e.1.2 g o.we:Nat):Int)<16 by lia),ag ⟨c1,c2⟩]
    cbv;try simp only[a3]
    cbv;refine⟨aG,λz hz=>?_⟩;have s6:aw I (upd I z (.tup [.int a,.int (VM.bQ e.1.2 g o.we:Nat)])):=au hz;refine⟨_,_,.of (s6 _ _ l),rfl,?_⟩;refine⟨_,_,.of (s6 _ _ l),rfl,?_⟩;refine⟨r,.ref z,e.2.1,e.2.2,rfl,?_⟩;refine SM (k:=(a,VM.bQ e.1.2 g o.we)) af (q3.same s6) kj.nd (kj.size J) λH7 s7 h7=>?_;exact⟨by exact fK,s7 _ _ (bq nr) (s6 _ _ q1),λc ob n q=>s7 _ _ (aO q N) (s6 _ _ (L _ _ n q)),h7⟩
   rw[ag ao];cbv;rw[ae (show ¬((VM.bQ e.1.2 g o.we:Nat):Int)<16 by lia)]
   exact⟨by exact fK,q1,L,no λh=>c2 h.2⟩
  rw[ae ao,ae aP];exact⟨by exact fK,q1,L,no λh=>c1 h.1⟩
 mleft;obtain⟨⟨v5,v6,v7,v8,rfl⟩,q1,L,q3⟩:=p;mright;rw[hz,eG]at q3;have fk:=Y F.length;rw[eG]at fk;have sF:aw H (upd I d (.dT am)):=λc ob q=>by
  by_cases n:c=d
  .subst n;rw[af,<-O];exact q
  rw[aj n];exact L _ _ n q
 have qF:fh (upd I d (.dT am)) r (F.foldl (VM.ie U o v) []):=q3.dN aq.upd nr λxs e=>by rw[q1]at e;cases e
 cbv;refine⟨r,.ref x,H,gm,U,G,_,rfl,sF,N,hT,J,qF,fk,λH3 F3 s3 d3 k3 e3=>?_⟩;refine k r H3 F3 s3 d3 k3 λP os B=>?_;rw[e3,VM.D8 J.ok a0 c0 a6 F [] an];rfl
def Bk(val:Nat->Nat->VM.TC)(least:Nat)(F:VM.DL (Nat×Nat)):Nat:=(F.map λe=>VM.fB least (VM.dA (some e.2) (val e.1.1 e.1.2))).sum
def K4(K:W.Frag):Sp:=λvs H Q _=>X7 λ(d Y:Addr) (least all n:Nat) (F:VM.DL (Nat×Nat)) (val:Nat->Nat->VM.TC)=>Y6 (vs=[.ref d,.ref Y,.int least]) (fh H d F) (nL all n 0 val H Y) (∀e∈F,e.1.1<n) (∀e∈F,∀p,val e.1.1 e.1.2=some p->p.2<18446744073709551616) (∀H',aw H H'->Q (.int (Bk val least F:Nat)) H')
theorem V7(val:Nat->Nat->VM.TC)(least:Nat)(F:VM.DL (Nat×Nat))(e:(Nat×Nat)×(Nat×Nat)):Bk val least (F++[e])=Bk val least F+VM.fB least (VM.dA (some e.2) (val e.1.1 e.1.2)):=by
 unfold Bk;rw[jK,Ue];simp
theorem zQ(T:Txt K mg t):aM P w K mg base bX 2 t.xU t.rJ ["front","table","least"] (K4 K):=by
 refine T.mM.ok hX (λvs H Q E h=>?_) (λav A u s H vs Q E hr h=>?_)
 .mleft;obtain⟨d,r,least,all,n,F,val,rfl,_⟩:=h;mright;rfl
 mleft;obtain⟨d,r,least,all,n,F,val,rfl,hD,J,hF,m,k⟩:=h;mright;have hu:=sk hr;obtain⟨I,Y,G⟩:=id hD;mleft;obtain⟨ds,N,aL,l⟩:=id J;mright;have g:r≠d:=λe=>by rw[e,Y]at N;cases N
 have hz:=ze G;refine⟨_,ah (aH (i:=3) hX.nd rfl aI (ax))
  (ah (yO (cz cO rfl (Lh (pv 0)) (gk K 2 rfl (bu (aE (i:=4) hX.nd rfl aI) (bu (aE (i:=5) hX.nd rfl aI) d9))) (ah (aH (i:=6) hX.nd rfl aI (AQ hu (aS (bF K) (pv 1) (aS (bW K) (pv 4) (ax) (λ_ _=>rfl)) (λ_ _=>rfl)) (aS (bW K) (pv 4) (ax) (λ_ _=>rfl)) ⟨rfl,rfl,rfl,rfl⟩))
  (ak (bZ ((Ph (aW EK (pv 6) (jc) (aR _)) (Kz (aW fq (bh dq (aS (bW K) (pv 5) (ax) (λ_ _=>rfl)) (aS (bW K) (pv 6) (ax) (λ_ _=>rfl))) (pv 2) (aR _)))).pt) (ak (QL (i:=3) hX.nd rfl aI (bh Oc (aS (bW K) (pv 5) (ax) (λ_ _=>rfl)) (aS (bW K) (pv 6) (ax) (λ_ _=>rfl))) Se)) bp)))))
  (ak (aK (pv 3)))),?_⟩
 cbv;refine YE (d:=d) Y (λM R q=>by cbv;exact q) (λM j σ L=>(∃f a v6,σ=[some (.ref d),some (.ref r),some (.int least),some (.int (Bk val least (F.take j):Nat)),f,a,v6])/\L d=some (.cV M (.dT I))/\aq d H L) (λM=>⟨by exact fK,af,aq.upd⟩) (λM j σ H3 p=>p.2.1) (λM j σ H3 T o hT p=>⟨p.1,au hT _ _ p.2.1,p.2.2.trans (.of (au hT))⟩) (λM j kk vv b σ L hk hb p=>?_) (λM σ L p=>?_)
 .mleft;obtain⟨⟨f,a,v6,rfl⟩,B,U⟩:=p;mright;mleft;obtain⟨e,he,ek,⟨ex,ev,hex⟩⟩:=qi G hk;mright;dsimp only at ek ev;subst ek ev;have ab:ex≠d:=λz=>by rw[z,Y]at hex;cases hex
  have O:=U _ _ ab hex;mleft;obtain⟨y,hy,dd,D,rfl,⟨al,u1,am⟩,u2,u3⟩:=l e.1.1 (dy _) (hF e (cI he));mright;have an:dd≠d:=λz=>by rw[z,Y]at u1;cases u1
  have ap:gV L dd D:=⟨al,U _ _ an u1,am.imp λv p q=>q.dN U λxs e=>by rw[Y]at e;cases e⟩
  mleft;obtain⟨ov,w1,w2,w3⟩:=ap.get e.1.2;mright;have ec:Bk val least (F.take (j+1))=Bk val least (F.take j)+VM.fB least (VM.dA (some e.2) (VM.look e.1.2 D)):=by
   rw[bo he,V7,<-u3]
  cbv;refine⟨_,_,.of hb,rfl,?_⟩;refine⟨_,_,.of (U _ _ g N),bE hy,?_⟩;cbv;refine⟨w1,_,_,.of hb,rfl,?_⟩;refine⟨ov,w2,?_⟩;cbv;rcases w3 with⟨C,rfl⟩|⟨p,v,C,rfl,px,rfl,hp⟩
  .rw[ae aP];cbv;refine⟨?_,by exact fK,B,U⟩
   rw[ec,C];rfl
  rw[ag aP];cbv;refine⟨_,_,.of O,rfl,?_⟩;refine⟨_,_,.of hp,rfl,?_⟩;cbv;have em:VM.fB least (VM.dA (some e.2) (some p))=if e.2.1+p.1=least then e.2.2*p.2 else 0:=rfl
  by_cases c:e.2.1+p.1=least
  .rw[ag ao];cbv;refine⟨_,_,.of O,rfl,?_⟩;refine⟨_,_,.of hp,rfl,?_⟩;cbv;have ar:=m e (cI he) p (by rw[<-u3];exact C)
   refine⟨.inr ⟨ao,ao⟩,?_,by exact fK,B,U⟩
   rw[ec,C,em,ag c,vQ,TV]
  rw[ae ao];cbv;refine⟨?_,by exact fK,B,U⟩
  rw[ec,C,em,ae c];rfl
 mleft;obtain⟨⟨f,a,v6,rfl⟩,B,U⟩:=p;mright;rw[hz,eG];have sF:aw H (upd L d (.dT I)):=λc ob q=>by
  by_cases n:c=d
  .subst n;rw[af,<-Y];exact q
  rw[aj n];exact U _ _ n q
 cbv;exact k _ sF
end
end
section
theorem YW{M:Sw66.Metre}(Y:VM.fz M)(wc:Bool):∃pos,gX (VM.aT M wc) (VM.ji (VM.cutsOf M).1 (VM.aT M wc)) pos:=by
 obtain⟨pos,ok⟩:=VM.aaZ (VM.cutsOf M).1 (VM.aT M wc);obtain⟨O,T⟩:=VM.zJ Y wc;refine⟨pos,ok,VM.HH Y,λq m g a h=>(VM.PH Y wc (cI h)).1,?_,?_,⟨_,(VM.o4 Y).1⟩,λq m g a h=>(VM.PH Y wc (cI h)).2,O⟩
 .show(VM.aT M wc).length<=8;rw[T];exact Y.p8
 have:=places_len (VM.aT M wc).length (VM.aT M wc) 0 [] λN U=>⟨O N U,λw L=>by
  mleft;obtain⟨as,J,q,rfl⟩:=VM.Ag _ _ _ _ _ U;mright;obtain⟨a,Q,rfl⟩:=bS.mp L;have e:(VM.oI (VM.gF M) q 0 a.row).length=a.row.length:=by rw[<-bG (f:=(·.1)),VM.AG]
  rw[e];exact(Y.alt as J a Q).2.1⟩
 have I:=Y.p8;rw[T]at this;show(VM.cY (VM.aT M wc).length 0 (VM.aT M wc) []).2.length<=96;rw[T];simp only[oH]at this;lia
theorem yG(Y:Bool){l:Sw66.Line}(U:VM.eC l):OU (VM.bg Y l):=by
 refine⟨by unfold VM.bg;rw[bG];exact U.lS,λo T=>?_⟩
 obtain⟨s,_,rfl⟩:=bS.mp T;unfold VM.b9;dsimp only;constructor
 .split<;>rfl
 split<;>rfl
abbrev ju(Y U:V):List (Str×V):=[("numbers",Y),("ahead",U)]
def za(t:Ad):Sp:=λvs H Q _=>X3 λ(p U:Addr) (T:V)=>Y3 (vs=[.ref p,T]) (H p=some (.ins t.Picked U [])) (∀Y,H Y=none->Q .aX (upd (upd H Y (.lst [])) p (.ins t.Picked U (ju (.ref Y) T))))
theorem yL(T:Txt K mg t):aM P w K mg base bX 2 t.yC t.qZ ["self","ahead"] (za t):=by
 refine T.zS.ok KD (λvs H Q E h=>?_) (λM A U s H vs Q E hr h=>?_)
 .mleft;obtain⟨p,O,L,rfl,_⟩:=h;mright;rfl
 mleft;obtain⟨p,O,L,rfl,N,k⟩:=h;mright;refine⟨_,ah (g9 T.eY T.eD (pv 0) (dt ai))
  (ak (g9 T.eY T.gp (pv 0) (pv 1))),?_⟩
 cbv;refine⟨aG,λnx Y=>?_⟩;have J:p≠nx:=λe=>by rw[<-e,N]at Y;cases Y
 have I:upd H nx (.lst []) p=some (.ins t.Picked O []):=by rw[aj J];exact N
 cbv;refine⟨aG,?_⟩;cbv;cbv;refine⟨by show 1<1000;decide,?_⟩
 rw[fF];exact k nx Y
theorem Fi{H:Hp}{Q:Addr->Hp->Prop}{E:L2.XK}{N:V}(k:∀M Y T O,H M=none->H T=none->aw H O->O M=some (.ins t.Picked Y (ju (.ref T) N))->O T=some (.lst [])->Q M O):∀x Y,H x=none->H Y=none->Y≠x->za t [V.ref x,N] (upd (upd H Y (.own x)) x (.ins t.Picked Y [])) (λv I=>v=.aX/\Q x I) E:=by
 intro x Y L hd n;refine⟨x,Y,N,rfl,af,λT U=>⟨rfl,?_⟩⟩;have J:aw H (upd (upd H Y (.own x)) x (.ins t.Picked Y [])):=(au hd).trans (au (by rw[aj (bq n)];exact L))
 have G:T≠x:=λe=>by rw[e,af]at U;cases U
 refine k x Y T _ L (J.free U) (aq.dJ (J.trans (au U)) aq.upd L) af ?_;rw[aj G,af]
def KC(t:Ad):Sp:=λvs H Q _=>X10 λ(Y L:V) (J:Addr) (N:Nat) (M:Sw66.Metre) (wc:Bool) (l:Sw66.Line) (U:VM.Pos) (c n:Nat)=>YB (vs=[Y,L,.ref J,.int N]) (VM.fz M) (VM.eC l) (aV (bw t) H Y (VM.bg false l)) (gq t H L (VM.ji (VM.cutsOf M).1 (VM.aT M wc))) (gX (VM.aT M wc) (VM.ji (VM.cutsOf M).1 (VM.aT M wc)) U) (TabsAt (VM.aT M wc) (VM.ji (VM.cutsOf M).1 (VM.aT M wc)) U (VM.bg false l) H J) (VM.S (VM.PP M wc l)=some (c,n)) (N<(VM.TL M wc c l).length) (∀I E G T a O,aw H O->O I=some (.ins t.Picked E (ju (.ref G) (.int (a:Nat))))->O G=some (.lst (T.map iV))->T.length=l.length->a<(VM.AM M wc c l l.length T).length->(VM.AM M wc c l l.length T)[a]?=(VM.TL M wc c l)[N]?->Q (.ref I) O)
theorem aak{gm:VM.GM}{T:VM.jo}{Y:VM.Pos}{os:List VM.Off}{least:Nat}(F:VM.DL (Nat×Nat)):Bk (vl gm T Y os) least F=(F.map λe=>VM.fB least (VM.dA (some e.2) (VM.bY gm T.all Y (λ_=>true) os e.1))).sum:=rfl
theorem Ki(T:Txt K mg t):aM P w K mg base bX 8 t.xX t.rC ["offers","track","tables","ahead"] (KC t):=by
 refine T.qY.ok dD (λvs H Q E h=>?_) (λcd A a8 s H vs Q E hr h=>?_)
 .mleft;obtain⟨a9,tv,tb,a0,M,wc,l,Y,c,n,rfl,_⟩:=h;mright;rfl
 mleft;obtain⟨a9,tv,tb,a0,M,wc,l,Y,c,n,rfl,hM,hl,ba,hT,hK,am,hS,bc,k⟩:=h;mright;have hu:=sk hr;have hc:=VM.Km hS;mleft;obtain⟨ox,ce,rfl,an,ap⟩:=id ba;mright;mleft;obtain⟨ts,bd,ch,be⟩:=id am;mright;have bi:(VM.bg false l).length=l.length:=by unfold VM.bg;rw[bG]
 have ca:=hl.lS;refine⟨_,ah (aH (i:=4) dD.nd rfl aI (aS (bW K) (aB (sI T) aN ay T.rZ T.kW.kp (sf T) .nil aC (aa (pv 2) ai)) (ax) (λ_ _=>rfl)))
  (ah (aH (i:=5) dD.nd rfl aI (d7 T.LB (yL T) aN ay T.Ln (zH T) .nil aC (aa (pv 3) ai)))
  (ah (aH (i:=6) dD.nd rfl aI (aB (qt T) aN ay T.ql T.gU.kp (qo T) .nil aC (aa (Lu hu (jL (aa (ax) (aa (ax) ai))) (jL (aa (ax) (aa (ax) ai)))) (aa (pv 1) ai))))
  (ah (cz cO rfl (gB ay T.c7 (aa (pv 0) ai)) (gk K 2 rfl (bu (aE (i:=7) dD.nd rfl aI) (bu (aE (i:=8) dD.nd rfl aI) d9))) (ah (cz cO rfl (eL ay T.dG (aa (bh dq (cH ay T.Gi) (ax)) ai)) (aE (i:=9) dD.nd rfl aI) (ah (aH (i:=10) dD.nd rfl aI (aB (JB T) aN ay T.JM T.pN.kp (Jz T) .nil aC (aa (pv 6) (aa (pv 8) (aa (pv 9) (aa (pv 1) ai))))))
  (ah (aH (i:=11) dD.nd rfl aI (aB (zQ T) aN ay T.yK T.mM.kp (yJ T) .nil aC (aa (pv 10) (aa (aS (bF K) (pv 2) (bh dq (pv 7) (ax)) (λ_ _=>rfl)) (aa (pv 4) ai)))))
  (ah (bZ (aW qw (aF T.eY T.gp (pv 5)) (pv 11) (aR _)) (ak (O5)) bp)
  (ak (JS T.eY T.gp (pv 5) (pv 11) Vq))))))
  (ah (b8 (lI jC oj oh fJ (aF T.eY T.eD (pv 5)) (aa (pv 9) ai)))
  (ak (aH (i:=6) dD.nd rfl aI (pv 10))))))
  (ak (aK (pv 5)))))),?_⟩
 cbv;refine⟨tb,_,_,_,Y,rfl,am,λv hv=>?_⟩;have ar:vl (VM.aT M wc) (VM.ji (VM.cutsOf M).1 (VM.aT M wc)) Y (VM.bg false l) 0 0=some (c,n):=(VM.uQ _ _ _ _).trans hS;rcases hv with⟨e,_⟩|⟨p,e,lx,rfl,bl⟩
 .rw[ar]at e;cases e
 rw[ar]at e;have e:=cp e;subst e;refine⟨_,_,.of bl,rfl,?_⟩;cbv;refine Fi λpx C nx H1 bm bn s1 br bv=>?_;cbv;intro r m;have sr:aw H1 (upd H1 r (.dT [])):=au m;refine⟨aG,λq hq=>?_⟩;have sq:=au (o:=.tup [.int 0,.int 0]) hq;refine⟨aG,λq2 f=>?_⟩;have ab:=au (o:=.tup [.int 0,.int 1]) f;have bx:=ab _ _ (sq _ _ (af:upd H1 r (.dT []) r=_));refine⟨bx,l5 (0,0),ab _ _ af,?_⟩;have b1:q2≠r:=λe=>by rw[e,sq _ _ (af:upd H1 r (.dT []) r=_)]at f;cases f
 refine⟨r,tv,H1,_,_,Y,[((0,0),(0,1))],rfl,aq.dJ ((sr.trans sq).trans ab) aq.upd m,m,hT.same s1,hK,⟨_,af,.cons ⟨rfl,q2,rfl,by rw[aj b1];exact af⟩ .nil⟩,⟨by simp,λkk hk=>?_⟩,λz F0 s2 d2 k2 e2=>?_⟩
 .rw[show kk=(0,0)by simpa using hk]
  exact⟨hK.U4 (by unfold nN;lia),dy _,.inr ⟨rfl,dy _⟩⟩
 have f0:VM.rE (VM.aT M wc) (VM.cutsOf M).1 Y (VM.bg false l) 0 [] F0:=λP=>(VM.Ri (VM.aT M wc) (VM.cutsOf M).1 Y (VM.bg false l) P).trans (e2 P _).symm;cbv;refine AA (a:=ox) (H1:=z) (λR q=>by cbv;exact q) (.of (s2 _ _ (s1 _ _ an))) (λj σ D=>∃d F U a,(∃v7 v8 v9 O N,σ=[some (.ref ox),some tv,some (.ref tb),some (.int a0),some (.int c),some (.ref px),some (.ref d),v7,v8,v9,O,N])/\aw H D/\D px=some (.ins t.Picked C (ju (.ref nx) (.int (a:Nat))))/\D nx=some (.lst (U.map iV))/\fh D d F/\VM.iO (VM.aT M wc) Y (VM.cutsOf M).1 (VM.aT M wc).length 0 F/\VM.rE (VM.aT M wc) (VM.cutsOf M).1 Y (VM.bg false l) j U F/\U.length=j/\a<(VM.AM M wc c l j U).length/\(VM.AM M wc c l j U)[a]?=(VM.TL M wc c l)[a0]?)
  ⟨r,F0,[],a0,by exact fK,s1.trans s2,s2 _ _ br,s2 _ _ bv,d2,k2,f0,rfl,by rw[VM.Sb];exact bc,by rw[VM.Sb]⟩
  (λj σ D _ p=>by obtain⟨d,F,U,a,_,s,_⟩:=p;exact .of (s _ _ an))
  (λj σ D T o hT p=>by
   mleft;obtain⟨d,F,U,a,p1,p2,p3,p4,p5,p6⟩:=p;mright;have s:=au (o:=o) hT;exact⟨d,F,U,a,p1,p2.trans s,s _ _ p3,s _ _ p4,p5.same s,p6⟩) (λj y σ D hy p=>?_) (λσ D p=>?_)
 .mleft;obtain⟨d,F,U,a,⟨v7,v8,v9,O,N,rfl⟩,s3,B,J,d3,k3,f3,u,a3,t3⟩:=p;mright;obtain⟨o,I,hO⟩:=ap.get hy;have av:j<l.length:=by have:=(dE.mp I).1;lia
  obtain⟨b2,cc⟩:=(yG false hl).2 o (cI I);have b3:=VM.vo l o (cI I);obtain⟨tx,aL,a1⟩:=be (j+1) ao;have nn:nx≠px:=λe=>by rw[e,B]at J;cases J
  have ci:=VM.abh (wc:=wc) (c:=c) hM hl av u;cbv;refine JR (n:=4) (H1:=D) (λR q=>by cbv;exact q) aG aG (λi σ z=>(∃v9 O N,σ=[some (.ref ox),some tv,some (.ref tb),some (.int a0),some (.int c),some (.ref px),some (.ref d),some (.int j),some y,v9,O,N])/\∃b,aw H z/\z px=some (.ins t.Picked C (ju (.ref nx) (.int (b:Nat))))/\z nx=some (.lst (U.map iV))/\fh z d F/\VM.Pp M wc c l j U i+b=a)
   ⟨by exact fK,a,s3,B,J,d3,by unfold VM.Pp;simp⟩ (λi σ z hi p=>?_) (λσ z p=>?_)
  .mleft;obtain⟨⟨v9,O,N,rfl⟩,b,s4,a2,a4,d4,eb⟩:=p;mright;have b4:i<4:=by simpa using hi
   cbv;refine⟨d,y,tv,i,_,_,Y,o,F,rfl,d4,k3,bw.same s4 hO,b2,b3,hT.same s4,hK,λd' H5 F' s5 d5 k5 e5=>?_⟩;have f5:VM.rE (VM.aT M wc) (VM.cutsOf M).1 Y (VM.bg false l) (j+1) (U++[i]) F':=VM.SO f3 I u λP=>e5 P _ (VM.Vx hl I);cbv;refine⟨_,.ref tx,.of (s5 _ _ (s4 _ _ bd)),?_,?_⟩
   .rw[show(j:Int)+1=((j+1:Nat):Int)by lia]
    exact bE aL
   cbv;refine⟨d',tx,c,_,_,F',_,rfl,d5,(a1.same (s4.trans s5)),λe he=>hK.EA (k5.at_ e.1 (bS.mpr ⟨e,he,rfl⟩)).1,λe he p=>YZ hK (by rw[Nm];lia),λH6 s6=>?_⟩
   rw[aak];have a5:=VM.Rj hM hl hc f5;rw[show(VM.ji (VM.cutsOf M).1 (VM.aT M wc)).all=(VM.cutsOf M).1 from rfl,a5];have a6:=s4.trans (s5.trans s6);have al:=s6 _ _ (s5 _ _ a2);have G:=s6 _ _ (s5 _ _ a4);cbv;by_cases cb:b<(VM.AM M wc c l (j+1) (U++[i])).length
   .rw[ag ao];cbv;refine⟨sN G,?_⟩;refine iW G (by rw[bG,u];exact eE (show j<25 by lia) aG) λH7 bt h7=>?_
    have L:aq nx H6 H7:=λbb ob n q=>(bt bb n).trans q;have d6:=d5.same s6;have nd:d'≠nx:=λe=>by obtain⟨kv,g,_⟩:=d6;rw[e,G]at g;cases g
    cbv;refine⟨by exact fK,aq.dJ a6 L bn,F',U++[i],b,L _ _ (bq nn) al,by rw[h7,jK];rfl,d6.dN L nd (λxs e=>by rw[G]at e;cases e),k5,f5,by rw[ee,u];rfl,cb,?_⟩
    rw[<-t3,<-eb];exact(VM.aa0 hM hl av u b4 cb).symm
   rw[ae ao];cbv;have a7:(b:Int) - ((VM.AM M wc c l (j+1) (U++[i])).length:Nat)=((b - (VM.AM M wc c l (j+1) (U++[i])).length:Nat):Int):=by lia
   have L:aq px H6 (upd H6 px (.ins t.Picked C (ju (.ref nx) (.int ((b - (VM.AM M wc c l (j+1) (U++[i])).length:Nat):Int))))):=aq.upd;have d6:=(d4.same s5).same s6;have nd:d≠px:=λe=>by obtain⟨kv,g,_⟩:=d6;rw[e,al]at g;cases g
   rw[a7];refine⟨by show 2<1000;decide,by exact fK,aq.dJ a6 L bm,_,af,L _ _ nn G,d6.dN L nd (λxs e=>by rw[al]at e;cases e),?_⟩
   rw[VM.Yt];lia
  mleft;obtain⟨⟨v9,O,N,rfl⟩,b,s4,a2,a4,d4,eb⟩:=p;mright;exfalso;rw[show(4:Int).toNat=4 from rfl]at eb;lia
 mleft;obtain⟨d,F,U,a,⟨v7,v8,v9,O,N,rfl⟩,s3,B,J,d3,k3,f3,u,a3,t3⟩:=p;mright;rw[ap.1,bi]at u a3 t3;cbv;exact k px C nx U a D s3 B J u a3 t3
end
section
def oY(t:Ad)(H:Hp)(v:V)(s met cc:Nat):Prop:=X2 λx Y=>v=.ref x/\H x=some (.ins t.gG Y (mX (.int s) (.int met) (.int cc)))
theorem oY.same{H Y:Hp}{v:V}{s met cc:Nat}(U:aw H Y)(h:oY t H v s met cc):oY t Y v s met cc:=by
 mleft;obtain⟨x,T,e,h⟩:=h;mright;exact⟨x,T,e,U _ _ h⟩
def Iy(K:W.Frag)(t:Ad):Sp:=λvs H Q _=>X15 λ(J I N G:V) (s met cc E Y:Nat) (os:List VM.Off) (gm:VM.GM) (T:VM.jo) (M:VM.Pos) (row:List (Nat×Nat)) (rest:VM.GM)=>Y11 (vs=[J,I,N,G]) (oY t H J s met cc) (s<=os.length) (fO H I (E,Y)) (aV (bw t) H N os) (OU os) (gq t H G T) (gX gm T M) (VM.bL gm M Y=some (row,rest)) (VM.fX (os.drop s) row met=none->∀O,aw H O->Q .aX O) (∀L U,VM.fX (os.drop s) row met=some (os.drop L,U)->L<=os.length->∀v O,aw H O->oY t O v L U (cc+E)->Q v O)
theorem JJ(T:Txt K mg t):aM P w K mg base bX 4 t.wJ t.pI ["stand","branch","offers","track"] (Iy K t):=by
 refine T.pG.ok gz (λvs H Q E h=>?_) (λbr A av s H vs Q E hr h=>?_)
 .mleft;obtain⟨sv,bv,aL,tv,s,met,cc,B,C,os,gm,Tk,o,row,rest,rfl,_⟩:=h;mright;rfl
 mleft;obtain⟨sv,bv,aL,tv,s',met,cc,B,C,os,gm,Tk,o,row,rest,rfl,⟨sx,bt,rfl,a0⟩,a1,⟨px,rfl,hp⟩,a2,hL,hT,hK,z,k1,k2⟩:=h;mright;mleft;obtain⟨ox,b1,rfl,n,l⟩:=id a2;mright;mleft;obtain⟨x,dx,_,fv,rfl,h1,⟨sa,ss,rfl,j,d⟩,b2⟩:=id hT.ex;mright;refine⟨_,ah (aH (i:=4) gz.nd rfl aI (d7 T.Of (BY T) aN ay T.P7 (BX T) .nil aC (aa (aF T.eT T.fE (pv 0)) (aa (aF T.eT T.j4 (pv 0)) (aa (bh dq (aF T.eT T.uD (pv 0)) (aS (bW K) (pv 1) (ax) (λ_ _=>rfl))) ai)))))
  (ah (aH (i:=5) gz.nd rfl aI (aS (bW K) (pv 1) (ax) (λ_ _=>rfl)))
  (ah (G6 cO (aW iY (pv 5) (aF T.bU T.dR (pv 3)) (aR _)) (ah (bZ (aW fq (aF T.eT T.fE (pv 4)) (bH (mq K) ay T.dk PySem.boot_len (aa (pv 2) ai)) (aR _)) (ak (aK (jc))) bp)
  (ah (aH (i:=6) gz.nd rfl aI (Kg (pv 3) T.bU T.wF (wm T) aN (vB T) .nil aC (aa (pv 5) ai)))
  (ah (aH (i:=7) gz.nd rfl aI (aS (bF K) (pv 2) (aF T.eT T.fE (pv 4)) (λ_ _=>rfl)))
  (ah (g9 T.eT T.j4 (pv 4) (aB (tK T) aN ay T.uh T.kM.kp (t6 T) .nil aC (aa (aF T.eT T.j4 (pv 4)) (aa (pv 6) (aa (pv 7) ai)))))
  (ah (bZ ((qj (aW fq (aS (bF K) (aF T.fC T.jU (pv 7)) (aF T.jR T.jO (pv 6)) (λ_ _=>rfl)) (ax) (aR _)) (nU (aW Nz (aF T.eT T.j4 (pv 4)) (cH ay T.xu) (aR _)))).pt) (ak (aK (jc))) bp)
  (ah (JS T.eT T.fE (pv 4) (ax) HR)
  (ak (aH (i:=5) gz.nd rfl aI (aF T.jR T.nX (pv 6)))))))))))
  (ak (aK (pv 4))))),?_⟩
 cbv;try simp only[a0]
 cbv;refine⟨_,_,.of hp,rfl,?_⟩;cbv;refine JL λbx M H1 y s1 a3=>?_;cbv;refine⟨_,_,.of (s1 _ _ hp),rfl,?_⟩;cbv;obtain⟨W,hW⟩:∃W:Nat->L2.St->Hp->Prop,W=λf σ v=>X6 λ(nd U Y:Nat) (O:List (Nat×Nat)) (v6 v7:Option V)=>Y7 (σ=[some (.ref sx),some (.ref px),some (.ref ox),some (.ref x),some (.ref bx),some (.int nd),v6,v7]) (aw H v) (v bx=some (.ins t.gG M (mX (.int U) (.int Y) (.int ((cc:Int)+B))))) (U<=os.length) (VM.bL gm o nd=some (O,rest)) (VM.fX (os.drop U) O Y=VM.fX (os.drop s') row met) (f=O.length):=⟨_,rfl⟩;refine⟨W,⟨row.length,by rw[hW];exact⟨C,s',met,row,_,_,rfl,s1,a3,a1,z,rfl,rfl⟩⟩,λf σ v hw=>?_⟩
 rw[hW]at hw;mleft;obtain⟨nd,U,Y,O,v6,v7,rfl,G,J,a4,I,N,hf⟩:=hw;mright;have u:=G _ _ h1;cbv;try simp only[u]
 cbv;by_cases cn:Tk.goal<nd
 .rw[ag ao];cbv;mleft;obtain⟨m,g,a,rr,a5,c,b,a6⟩:=VM.kR hK.ok (by rw[I];rfl) cn
  mright;rw[I]at b;obtain⟨e1,e2⟩:=IT (cp b);subst e1 e2;refine⟨λa7 a8=>∃m',m'<f/\W m' a7 a8,λ_ _ q=>q,?_⟩;cbv;try simp only[J]
  cbv;refine⟨_,.inl (.of (G _ _ n)),?_⟩;rw[l.1];by_cases ce:U=os.length
  .rw[ag ao];refine k1 ?_ v G;rw[<-N,List.drop_of_length_le ao];rfl
  rw[ae ao];cbv;have D:U<os.length:=by lia
  obtain⟨yo,a9,hO⟩:=l.get' (cu D);obtain⟨ys,ba,r⟩:=d.get' c;try simp only[u]
  cbv;refine⟨rfl,x,dx,sa,_,Tk.goal,nd,_,ss,ys,rfl,u,G _ _ j,cn,ba,?_⟩;cbv;try simp only[J]
  cbv;refine⟨_,_,.of (G _ _ n),bE a9,?_⟩;cbv;try simp only[J]
  cbv;refine⟨Y,ys,yo,(m,g,a),os[U],rfl,r.same G,bw.same G hO,?_⟩;cbv;try simp only[J]
  cbv;refine⟨by show 3<1000;decide,?_⟩
  have p:os.drop U=os[U]::os.drop (U+1):=xI D;have bb:VM.fX (os.drop U) ((m,g)::rr) Y=if os[U].tk.getD m 0=0\/16<=VM.bQ Y g os[U].we then none else VM.fX (os.drop (U+1)) rr (VM.bQ Y g os[U].we):=by rw[p];rfl
  rw[bb]at N;have bd:=(hL.2 os[U] (xJ D)).1;have L:aw H (upd v bx (.ins t.gG M (mX (.int U) (.int (VM.bQ Y g os[U].we:Nat)) (.int ((cc:Int)+B))))):=aq.dJ G aq.upd y;generalize ab:upd v bx (.ins t.gG M (mX (.int U) (.int (VM.bQ Y g os[U].we:Nat)) (.int ((cc:Int)+B))))=H5 at L;have al:H5 bx=some (.ins t.gG M (mX (.int U) (.int (VM.bQ Y g os[U].we:Nat)) (.int ((cc:Int)+B)))):=by rw[<-ab];exact af
  clear ab;mleft;obtain⟨b3,bn,ta,pa,rfl,be,bi,b4⟩:=id (bw.same L hO);mright;mleft;obtain⟨am,an,rfl,ap⟩:=id (r.same L);mright;cbv;try simp only[be,ap]
  cbv;refine⟨_,_,.of bi,bE (getD_at bd (hK.mem _ _ _ _ c)),?_⟩;cbv;try simp only[kr]
  cbv;by_cases c1:os[U].tk.getD m 0=0
  .rw[ag ao];refine k1 ?_ H5 L;rw[<-N,ag (.inl c1)]
  rw[ae ao];cbv;try simp only[al]
  cbv;by_cases c2:16<=VM.bQ Y g os[U].we
  .rw[ag ao];refine k1 ?_ H5 L;rw[<-N,ag (.inr c2)]
  rw[ae ao];cbv;try simp only[al]
  cbv;rw[ae (λq=>q.elim c1 c2)]at N;have bl:aw H (upd H5 bx (.ins t.gG M (mX (.int ((U:Int)+1)) (.int (VM.bQ Y g os[U].we:Nat)) (.int ((cc:Int)+B))))):=aq.dJ L aq.upd y;have bm:am≠bx:=λe=>by obtain⟨x',d',e',q⟩:=r;rw[<-V.ref.inj e',e,y]at q;cases q
  have ar:upd H5 bx (.ins t.gG M (mX (.int ((U:Int)+1)) (.int (VM.bQ Y g os[U].we:Nat)) (.int ((cc:Int)+B)))) am=some (.ins t.Step an (Jf (.int m) (.int g) (.int a))):=by rw[aj bm];exact ap
  refine⟨by show 3<1000;decide,?_⟩
  cbv;try simp only[ar]
  cbv;refine⟨rr.length,by rw[hf];simp,?_⟩
  rw[hW];refine⟨a,U+1,VM.bQ Y g os[U].we,rr,_,_,rfl,bl,?_,D,a6,N,rfl⟩;rw[af,vQ];rfl
 rw[ae ao];cbv;have er:O=[]:=by
  unfold VM.bL at I;rw[ag (by have:=hK.ok.goal;lia)]at I
  exact(IT (cp I)).1.symm
 rw[er,VM.DT]at N;refine k2 U Y N.symm a4 _ v G ⟨bx,M,rfl,?_⟩;rw[J,vQ]
def MU(K:W.Frag)(t:Ad):Sp:=λvs H Q _=>X4 λ(U:V) (p least:Nat) (O:Addr)=>vs=[U,.int p,.ref O,.int least]/\((U=.aX/\Q (.int 0) H)\/X7 λ(s met cc:Nat) (gm:VM.GM) (T:VM.jo) (Y:VM.Pos) (os:List VM.Off)=>Y7 (oY t H U s met cc) (s<=os.length) (p<nN T) (os.length<=24) (gX gm T Y) (TabsAt gm T Y os H O) (∀N,aw H N->Q (.int (VM.fB least (VM.dA (some (cc,1)) (vl gm T Y (os.drop s) p met)):Nat)) N))
theorem Mp(T:Txt K mg t):aM P w K mg base bX 4 t.AK t.uw ["stand","place","tables","least"] (MU K t):=by
 refine T.uf.ok MQ (λvs H Q E h=>?_) (λm A I s H vs Q E hr h=>?_)
 .mleft;obtain⟨l,p,least,j,rfl,_⟩:=h;mright;rfl
 mleft;obtain⟨l,p,least,j,rfl,h⟩:=h;mright;have i:=sk hr;refine⟨_,ah (bZ (aW Hq (pv 0) (jc) (aR _)) (ak (aK (ax))) bp)
  (ak (aK (aB (zQ T) aN ay T.yK T.mM.kp (yJ T) .nil aC (aa (Lu i (jL (aa (pv 1) (aa (aF T.eT T.j4 (pv 0)) ai))) (jL (aa (aF T.eT T.uD (pv 0)) (aa (ax) ai)))) (aa (aS (bF K) (pv 2) (aF T.eT T.fE (pv 0)) (λ_ _=>rfl)) (aa (pv 3) ai)))))),?_⟩
 cbv;rcases h with⟨rfl,k⟩|⟨g,met,cc,gm,Tk,f,os,⟨sx,c,rfl,U⟩,G,b,a,hK,D,k⟩
 .rw[ag rfl];exact k
 rw[ae aP];cbv;mleft;obtain⟨ts,C,ab,B⟩:=id D;mright;obtain⟨tx,e1,e2⟩:=B g G;intro d M;have z:=au (o:=.dT []) M;cbv;have u:=z _ _ U;cbv;refine⟨aG,λq hq=>?_⟩;have J:=au (o:=.tup [.int p,.int met]) hq;cbv;have u:=J _ _ (z _ _ U);cbv;refine⟨aG,λY O=>?_⟩;have N:=au (o:=.tup [.int cc,.int 1]) O;have y:=N _ _ (J _ _ (af:upd H d (.dT []) d=_));have v:Y≠d:=λe=>by rw[e,J _ _ (af:upd H d (.dT []) d=_)]at O;cases O
 refine⟨y,l5 (p,met),N _ _ af,?_⟩;have L:aw H (upd (upd (upd (upd H d (.dT [])) q (.tup [.int p,.int met])) Y (.tup [.int cc,.int 1])) d (.dT [(l5 (p,met),.ref Y)])):=aq.dJ ((z.trans J).trans N) aq.upd M;have r:fh (upd (upd (upd (upd H d (.dT [])) q (.tup [.int p,.int met])) Y (.tup [.int cc,.int 1])) d (.dT [(l5 (p,met),.ref Y)])) d [((p,met),(cc,1))]:=⟨_,af,.cons ⟨rfl,Y,rfl,by rw[aj v];exact af⟩ .nil⟩
 generalize upd (upd (upd (upd H d (.dT [])) q (.tup [.int p,.int met])) Y (.tup [.int cc,.int 1])) d (.dT [(l5 (p,met),.ref Y)])=H5 at L r;cbv;have u:=L _ _ U;cbv;refine⟨_,_,.of (L _ _ C),bE e1,?_⟩;refine⟨d,tx,least,_,_,_,_,rfl,r,e2.same L,λe n=>?_,λe n p=>YZ hK (by rw[Nm];lia),λH6 s6=>?_⟩
 .rw[show e=((p,met),(cc,1))by simpa using n]
  exact b
 have:=k H6 (L.trans s6);unfold Bk;simp only[bM,qC,js,Tq,C7];exact this
def Qs(t:Ad):Sp:=λvs H Q _=>X9 λ(Y M:V) (U:Nat) (os:List VM.Off) (gm:VM.GM) (T:VM.jo) (O:VM.Pos) (c n:Nat)=>Y11 (vs=[Y,M,.int U]) (aV (bw t) H Y os) (OU os) (VM.kO os) (VM.jy os) (gq t H M T) (gX gm T O) (VM.S (VM.aU T.all gm 0 os)=some (c,n)) (∀y∈VM.pF T.all gm 0 os,c<=0+y.2) (U<(VM.gM T.all gm os 0 0 c).length) (∀L as N,aw H N->N L=some (.lst (as.map iV))->((VM.gM T.all gm os 0 0 c)[U]?).map (·.1)=some as->Q (.ref L) N)
theorem Ql(T:Txt K mg t):aM P w K mg base bX 12 t.CP t.vp ["offers","track","ahead"] (Qs t):=by
 refine T.vZ.ok dz (λvs H Q E h=>?_) (λcC A cj s H vs Q E hr h=>?_)
 .mleft;obtain⟨r,tv,a0,os,gm,Tk,M,c,n,rfl,_⟩:=h;mright;rfl
 mleft;obtain⟨r,tv,a0,os,gm,Tk,M,c,n,rfl,a3,hL,hJ,hP,hT,m,hS,hc,cl,k⟩:=h;mright;mleft;obtain⟨x,dx,l,_,rfl,h1,cE,fx,fs,rfl,be,bi⟩:=id hT.ex;mright;have cL:=m.ok.goal;refine⟨_,ah (aH (i:=3) dz.nd rfl aI (aB (oE T) aN ay T.oo T.ib.kp (oR T) .nil aC (aa (pv 0) (aa (pv 1) ai))))
  (ah (aH (i:=4) dz.nd rfl aI (aS (bW K) (aB (sI T) aN ay T.rZ T.kW.kp (sf T) .nil aC (aa (pv 3) ai)) (ax) (λ_ _=>rfl)))
  (ah (aH (i:=5) dz.nd rfl aI (d7 T.LB (yL T) aN ay T.Ln (zH T) .nil aC (aa (pv 2) ai)))
  (ah (aH (i:=6) dz.nd rfl aI (d7 T.Of (BY T) aN ay T.P7 (BX T) .nil aC (aa (ax) (aa (ax) (aa (ax) ai)))))
  (ah (cz cO rfl (gB ay T.c7 (aa (aF T.bU T.j3 (pv 1)) ai)) (gk K 2 rfl (bu (aE (i:=7) dz.nd rfl aI) (bu (aE (i:=8) dz.nd rfl aI) d9))) (ah (cz cO rfl (gB ay T.c7 (aa (pv 8) ai)) (gk K 2 rfl (bu (aE (i:=9) dz.nd rfl aI) (bu (aE (i:=10) dz.nd rfl aI) d9))) (ah (aH (i:=11) dz.nd rfl aI (aB (JJ T) aN ay T.Ih T.pG.kp (IH T) .nil aC (aa (pv 6) (aa (pv 10) (aa (pv 0) (aa (pv 1) ai))))))
  (ah (aH (i:=12) dz.nd rfl aI (aB (Mp T) aN ay T.Mu T.uf.kp (ML T) .nil aC (aa (pv 11) (aa (bh dq (pv 7) (ax)) (aa (pv 3) (aa (pv 4) ai))))))
  (ah (bZ (aW qw (aF T.eY T.gp (pv 5)) (pv 12) (aR _)) (ak (O5)) bp)
  (ak (JS T.eY T.gp (pv 5) (pv 12) Vq))))))
  (ah (b8 (lI jC oj oh fJ (aF T.eY T.eD (pv 5)) (aa (pv 9) ai)))
  (ak (aH (i:=6) dz.nd rfl aI (pv 11))))))
  (ak (aK (aF T.eY T.eD (pv 5)))))))),?_⟩
 cbv;refine⟨r,.ref x,os,gm,Tk,M,rfl,a3,hL,hT,m,λtb Hb c0 j bl=>?_⟩;cbv;refine⟨tb,_,_,_,M,rfl,bl,λv hv=>?_⟩;have bm:vl gm Tk M os 0 0=some (c,n):=(VM.uQ _ _ _ _).trans hS;rcases hv with⟨e,_⟩|⟨p,e,lx,rfl,cm⟩
 .rw[bm]at e;cases e
 rw[bm]at e;have e:=cp e;subst e;refine⟨_,_,.of cm,rfl,?_⟩;cbv;refine Fi λpx al nx H1 bn cn s1 co cr=>?_;cbv;refine JL λsx cs H2 c1 L am=>?_;cbv;have nd:∀U,VM.kO (os.drop U)/\VM.jy (os.drop U):=λU=>⟨λo ho=>hJ o (NB ho),λo ho=>hP o (NB ho)⟩;refine AA (a:=fx) (H1:=H2) (λR q=>by have zz:=L _ _ (s1 _ _ (j _ _ h1));cbv;exact q) (.of (L _ _ (s1 _ _ (j _ _ be)))) (λp σ H'=>∃l U met cc as a,(∃v7 v8 v9 D C B,σ=[some r,some (.ref x),some (.int a0),some (.ref tb),some (.int c),some (.ref px),some l,v7,v8,v9,D,C,B])/\aw Hb H'/\H' px=some (.ins t.Picked al (ju (.ref nx) (.int (a:Nat))))/\H' nx=some (.lst (as.map iV))/\oY t H' l U met cc/\U<=os.length/\as.length=p/\a<(VM.gM Tk.all (gm.drop p) (os.drop U) met cc c).length/\(∀y∈VM.pF Tk.all (gm.drop p) met (os.drop U),c<=cc+y.2)/\((VM.gM Tk.all (gm.drop p) (os.drop U) met cc c)[a]?).map (λy=>as++y.1)=((VM.gM Tk.all gm os 0 0 c)[a0]?).map (·.1))
  ⟨.ref sx,0,0,0,[],a0,by exact fK,s1.trans L,L _ _ co,L _ _ cr,⟨sx,cs,rfl,am⟩,dy _,rfl,cl,hc,rfl⟩
  (λp σ H' _ u=>by obtain⟨l,U,met,cc,as,a,_,s,_⟩:=u;exact .of (s _ _ (j _ _ be)))
  (λp σ H' T o hT u=>by
   mleft;obtain⟨l,U,met,cc,as,a,p1,p2,p3,p4,p5,p6⟩:=u;mright;have s:=au (o:=o) hT;exact⟨l,U,met,cc,as,a,p1,p2.trans s,s _ _ p3,s _ _ p4,p5.same s,p6⟩) (λp y σ H' hy u=>?_) (λσ H' u=>?_)
 .mleft;obtain⟨l,U,met,cc,as,a,⟨v7,v8,v9,D,C,B,rfl⟩,s3,a4,g,ap,a5,a6,ha,a7,J⟩:=u;mright;mleft;obtain⟨bs,bv,bx,c2,rfl,b1,b2⟩:=bi.get hy;mright;have b3:p<gm.length:=by have:=(dE.mp bv).1;have:=m.ok.abA;lia
  have a8:gm.drop p=gm[p]::gm.drop (p+1):=xI b3;mleft;obtain⟨c3,q1,q2,q3⟩:=m.ok.fork p gm[p] (cu b3);mright;rw[bv]at q1;have q1:=cp q1;subst q1;rw[a8]at ha a7 J;obtain⟨nJ,nP⟩:=nd U;have cB:=VM.abH m.wZ (rest:=gm.drop (p+1)) (met:=met) (cc:=cc) (least:=c) (ways:=gm[p]) nJ nP;have nn:nx≠px:=λe=>by rw[e,a4]at g;cases g
  cbv;refine AA (a:=bx) (H1:=H') (λR q=>by cbv;exact q) (.of (s3 _ _ (j _ _ b1))) (λi σ H2=>(∃v9 D C B,σ=[some r,some (.ref x),some (.int a0),some (.ref tb),some (.int c),some (.ref px),some l,some (.int p),some (.ref bx),v9,D,C,B])/\∃b,aw Hb H2/\H2 px=some (.ins t.Picked al (ju (.ref nx) (.int (b:Nat))))/\H2 nx=some (.lst (as.map iV))/\oY t H2 l U met cc/\VM.wS Tk.all (gm.drop (p+1)) (os.drop U) met cc c gm[p] i+b=a)
   ⟨by exact fK,a,s3,a4,g,ap,by unfold VM.wS;simp⟩ (λi σ H2 _ u=>.of (u.2.choose_spec.1 _ _ (j _ _ b1))) (λi σ H2 T o hT u=>?_) (λi y σ H2 hy u=>?_) (λσ H2 u=>?_)
  .mleft;obtain⟨ct,b,r1,r2,r3,r4,r5⟩:=u;mright;have s:=au (o:=o) hT;exact⟨ct,b,r1.trans s,s _ _ r2,s _ _ r3,r4.same s,r5⟩
  .mleft;obtain⟨⟨v9,D,C,B,rfl⟩,b,s4,a9,ba,I,eb⟩:=u;mright;obtain⟨br,b4,ar⟩:=b2.get hy;have cv:i<gm[p].length:=by have:=(dE.mp b4).1;lia
   obtain⟨w,hw⟩:∃w,gm[p][i]?=some w:=⟨_,cu cv⟩;mleft;obtain⟨av,r1,r2,r3⟩:=q3 i w hw;mright;rw[b4]at r1;have r1:=cp r1;subst r1;have cw:p+1<nN Tk:=by unfold nN;lia
   cbv;cases bc:VM.fX (os.drop U) w.2 met with
   |none =>
    refine⟨l,y,r,.ref x,U,met,cc,w.1,av,os,gm,Tk,M,w.2,gm.drop (p+1),rfl,I,a5,ar.same (j.trans s4),aV.same bw.mn (j.trans s4) a3,hL,hT.same (j.trans s4),m,r2,λ_ H5 s5=>?_,λL Y e=>by rw[bc]at e;cases e⟩
    cbv;refine⟨.aX,p+1,c,tb,by rw[vQ];rfl,.inl ⟨rfl,?_⟩⟩
    have cx:=s5 _ _ a9;cbv;rw[ae ao];cbv;rw[Int.sub_zero];have O:aq px H5 (upd H5 px (.ins t.Picked al (ju (.ref nx) (.int (b:Nat))))):=aq.upd;mleft;obtain⟨G,f,rfl,N⟩:=I.same s5;mright;have d:G≠px:=λe=>by rw[e,cx]at N;simp at N
    refine⟨by show 2<1000;decide,by exact fK,aq.dJ (s4.trans s5) O bn,b,af,O _ _ nn (s5 _ _ ba),⟨G,f,rfl,O _ _ d N⟩,?_⟩
    rw[VM.Sm hw,VM.UA bc];exact eb
   |some z =>
    refine⟨l,y,r,.ref x,U,met,cc,w.1,av,os,gm,Tk,M,w.2,gm.drop (p+1),rfl,I,a5,ar.same (j.trans s4),aV.same bw.mn (j.trans s4) a3,hL,hT.same (j.trans s4),m,r2,λe=>(by rw[bc]at e;cases e),λL Y e am v H5 s5 aL=>?_⟩
    have a1:∀y∈VM.pF Tk.all (gm.drop (p+1)) Y (os.drop L),c<=cc+w.1+y.2:=λy hy=>by
     have:=a7 _ (VM.ab3 m.wZ nJ nP hw e hy);dsimp only at this;lia
    have bd:=VM.Ug (all:=Tk.all) (rest:=gm.drop (p+1)) (cc:=cc) (least:=c) (i:=i) e;dsimp only at bd;have a2:(VM.nY Tk.all (gm.drop (p+1)) (os.drop U) met cc c w i).length=(VM.gM Tk.all (gm.drop (p+1)) (os.drop L) Y (cc+w.1) c).length:=by rw[bd,bG]
    cbv;refine⟨v,p+1,c,tb,by rw[vQ];rfl,.inr ⟨L,Y,cc+w.1,gm,Tk,M,os,aL,am,cw,hL.1,m,bl.same (s4.trans s5),λH6 s6=>?_⟩⟩
    have ca:VM.fB c (VM.dA (some (cc+w.1,1)) (vl gm Tk M (os.drop L) (p+1) Y))=(VM.gM Tk.all (gm.drop (p+1)) (os.drop L) Y (cc+w.1) c).length:=by
     rw[<-VM.TJ a1];unfold vl;rw[VM.UJ _ _ _ _ ao]
    rw[ca];have cd:=s6 _ _ (s5 _ _ a9);have an:=s6 _ _ (s5 _ _ ba);have ce:=s4.trans (s5.trans s6);have ch:=aL.same s6;cbv;by_cases cb:b<(VM.gM Tk.all (gm.drop (p+1)) (os.drop L) Y (cc+w.1) c).length
    .rw[ag ao];cbv;refine⟨sN an,?_⟩;refine iW an (by rw[bG,a6];have:=m.g8;exact eE (show p<9 by lia) aG) λH7 bt h7=>?_
     have O:aq nx H6 H7:=λbb ob n q=>(bt bb n).trans q;mleft;obtain⟨G,f,rfl,N⟩:=ch;mright;have d:G≠nx:=λe=>by rw[e,an]at N;cases N
     cbv;refine⟨by exact fK,aq.dJ ce O cn,L,Y,cc+w.1,as++[i],b,O _ _ (bq nn) cd,by rw[h7,jK];rfl,⟨G,f,rfl,O _ _ d N⟩,am,by rw[ee,a6];rfl,cb,a1,?_⟩
     rw[<-J,<-eb,VM.ace m.wZ nJ nP hw (by rw[a2];exact cb),bd,cM,Option.map_map]
     congr 1;funext y;simp
    rw[ae ao];cbv;have ci:(b:Int) - ((VM.gM Tk.all (gm.drop (p+1)) (os.drop L) Y (cc+w.1) c).length:Nat)=((b - (VM.gM Tk.all (gm.drop (p+1)) (os.drop L) Y (cc+w.1) c).length:Nat):Int):=by lia
    rw[ci];have O:aq px H6 (upd H6 px (.ins t.Picked al (ju (.ref nx) (.int ((b - (VM.gM Tk.all (gm.drop (p+1)) (os.drop L) Y (cc+w.1) c).length:Nat):Int))))):=aq.upd;mleft;obtain⟨G,f,rfl,N⟩:=(I.same s5).same s6;mright;have d:G≠px:=λe=>by rw[e,cd]at N;simp at N
    refine⟨by show 2<1000;decide,by exact fK,aq.dJ ce O bn,_,af,O _ _ nn an,⟨G,f,rfl,O _ _ d N⟩,?_⟩
    rw[VM.Sm hw,a2];lia
  mleft;obtain⟨⟨v9,D,C,B,rfl⟩,b,s4,a9,ba,I,eb⟩:=u;mright;exfalso;rw[b2.1,q2]at eb;lia
 mleft;obtain⟨l,U,met,cc,as,a,⟨v7,v8,v9,D,C,B,rfl⟩,s3,a4,g,ap,a5,a6,ha,a7,J⟩:=u;mright;rw[bi.1,m.ok.abA,Gk]at ha J;cbv;refine k nx as H' (j.trans s3) g ?_;rw[<-J,cu ha];have:(VM.gM Tk.all [] (os.drop U) met cc c)[a].1=[]:=by
  have hm:(VM.gM Tk.all [] (os.drop U) met cc c)[a]∈VM.gM Tk.all [] (os.drop U) met cc c:=xJ ha;have ab:=(g6.mp hm).1;unfold VM.pF VM.aU at ab;split at ab
  .rw[bS]at ab;obtain⟨z,hz,ez⟩:=ab;rw[<-ez,oK.mp hz];rfl
  simp at ab
 rw[iL,this,iN]
theorem DQ.mono{A B:Hp}{b:Addr}{v:V}{o:VM.Off}(s:aw A B)(h:DQ t A b v o):DQ t B b v o:=by
 mleft;obtain⟨x,Y,a,e,U,T⟩:=h;mright;exact⟨x,Y,a,e,s _ _ U,s _ _ T⟩
def ab1(t:Ad)(H1 A:Hp)(v:V)(o:VM.Off):Prop:=∃b,H1 b=some (.lst (o.pr.map iV))/\DQ t A b v o
def OO(t:Ad):Sp:=λvs H Q _=>X10 λ(Y N:V) (L:Addr) (O:Nat) (M:Sw66.Metre) (wc:Bool) (l:Sw66.Line) (U:VM.Pos) (c n:Nat)=>YB (vs=[Y,N,.ref L,.int O]) (VM.fz M) (VM.eC l) (aV (bw t) H Y (VM.bg false l)) (gq t H N (VM.ji (VM.cutsOf M).1 (VM.aT M wc))) (gX (VM.aT M wc) (VM.ji (VM.cutsOf M).1 (VM.aT M wc)) U) (TabsAt (VM.aT M wc) (VM.ji (VM.cutsOf M).1 (VM.aT M wc)) U (VM.bg false l) H L) (VM.S (VM.PP M wc l)=some (c,n)) (O<(VM.TL M wc c l).length) (∀q J I x T,aw H T->(VM.TL M wc c l)[O]?=some x->T q=some (.tup [.ref J,.ref I])->T J=some (.lst (x.marks.map iV))->T I=some (.lst (x.alts.map iV))->Q (.ref q) T)
theorem PZ(T:Txt K mg t):aM P w K mg base bX 14 t.D6 t.wg ["offers","track","tables","ahead"] (OO t):=by
 refine T.vz.ok lQ (λvs H Q E h=>?_) (λb3 A aL s H vs Q E hr h=>?_)
 .mleft;obtain⟨a1,tv,tb,a0,M,wc,l,L,c,n,rfl,_⟩:=h;mright;rfl
 mleft;obtain⟨a1,tv,tb,a0,M,wc,l,L,c,n,rfl,hM,J,m,hT,hK,a3,hS,a4,k⟩:=h;mright;have hc:=VM.Km hS;mleft;obtain⟨ox,b4,rfl,a5,j⟩:=id m;mright;have a6:(VM.bg false l).length=l.length:=by unfold VM.bg;rw[bG]
 have b2:=J.lS;refine⟨_,ah (aH (i:=4) lQ.nd rfl aI (aB (Ki T) aN ay T.KH T.qY.kp (Kk T) .nil aC (aa (pv 0) (aa (pv 1) (aa (pv 2) (aa (pv 3) ai))))))
  (ah (ka (i:=5) rfl lQ.nd rfl rfl (kU rfl rfl rfl rfl) (gB ay T.c7 (aa (pv 0) ai)) (b6 (own:=[("index",6),("offer",7)]) ay) (λ_ _ _ _ _=>(gk K 2 rfl (bu (aE (i:=6) lQ.nd rfl aI) (bu (aE (i:=7) lQ.nd rfl aI) d9)))) (λ_ _ _ _ _=>(J7 (aW iY (aS (bF K) (aF T.eY T.eD (pv 4)) (pv 6) (λ_ _=>rfl)) (ax) (aR _)))) (λ_ _ _ _ _=>(aB (VA T) aN ay T.V5 T.Ep.kp (U7 T) .nil aC (aa (pv 7) (aa (aS (bF K) (aF T.eY T.eD (pv 4)) (pv 6) (λ_ _=>rfl)) ai)))))
  (ak (aK (jL (aa (aF T.eY T.eD (pv 4)) (aa (aB (Ql T) aN ay T.Qa T.vZ.kp (PR T) .nil aC (aa (pv 5) (aa (pv 1) (aa (aF T.eY T.gp (pv 4)) ai)))) ai)))))),?_⟩
 cbv;refine⟨.ref ox,tv,tb,a0,M,wc,l,L,c,n,rfl,hM,J,m,hT,hK,a3,hS,a4,λpx ca nx ms a H1 u g I a7 O f=>?_⟩;cbv;refine VP (a:=ox) (H1:=H1) (λR q=>by cbv;exact q) (.of (u _ _ a5)) (λi ys A=>Zp (ab1 t H1 A) ys (VM.pins ((VM.bg false l).take i) (ms.take i))) (λi ys A B s h=>h.imp λy o q=>by obtain⟨b,d,q2⟩:=q;exact⟨b,d,q2.mono s⟩) (by show Zp _ [] (VM.pins [] []);exact Zp.nil) (λD i y H' hD hy p=>?_) (λD H' hD p=>?_)
 .mleft;obtain⟨Y,ys,U,z⟩:=p;mright;obtain⟨o,G,hO⟩:=j.get hy;have a8:i<ms.length:=by have:=(dE.mp G).1;lia
  have C:ms[i]?=some ms[i]:=cu a8;have N:=Y _ _ g;have hz:ys.length<sizeLine:=by
   rw[z.1];refine d8 (VM.Gf _ _) ?_;rw[iA];exact d8 (F8 _ _) (eE (show i<25 by lia) aG)
  have ab:VM.pins ((VM.bg false l).take (i+1)) (ms.take (i+1))=VM.pins ((VM.bg false l).take i) (ms.take i)++if ms[i]=0 then[]else[VM.jg o ms[i]]:=by
   rw[bo G,bo C,VM.LZ];rw[iA,iA];lia
  cbv;try simp only[N]
  cbv;refine⟨_,_,.of (Y _ _ I),bE (by rw[cM,C];rfl),?_⟩
  cbv;try simp only[kr]
  cbv;by_cases c0:ms[i]=0
  .rw[ae ao];exact dW.skip Y U (by rw[ab,ag c0,iN];exact z)
  rw[ag ao];cbv;try simp only[N]
  cbv;refine⟨_,_,.of (Y _ _ I),bE (by rw[cM,C];rfl),?_⟩
  simp only[kr];mleft;obtain⟨a9,al,ta,pa,rfl,ba,bb,bc⟩:=id hO;mright;refine⟨a9,al,ta,pa,o,ms[i],rfl,Y _ _ (u _ _ ba),Y _ _ (u _ _ bb),by rw[((yG false J).2 o (cI G)).1];decide,λr H4 s4 bd=>?_⟩
  refine dW.next hD (Y.trans s4) (s4 _ _ U) hz ?_;rw[ab,ae c0];refine(z.imp λy o' q=>?_).snoc ⟨pa,u _ _ bc,bd.mono (fD λb hb=>?_)⟩
  .obtain⟨b,d,q2⟩:=q;exact⟨b,d,q2.mono (Bt s4)⟩
  have nb:b≠D:=λe=>by rw[e,U]at hb;cases hb
  rw[aj nb];exact Y.free hb
 mleft;obtain⟨Y,ys,U,z⟩:=p;mright;rw[j.1,eG,a6,<-a7,eG]at z;have N:=Y _ _ g;have be:=Y _ _ I;have am:VM.AM M wc c l l.length ms≠[]:=λe=>by rw[e]at O;simp at O
 obtain⟨⟨n',bi⟩,bl⟩:=VM.UI hM J hc am;have an:=VM.RL hM J am;have ap:(VM.gM (VM.cutsOf M).1 (VM.aT M wc) (VM.pins (VM.bg false l) ms) 0 0 c).length=(VM.AM M wc c l l.length ms).length:=by
  have:=mR List.length an;rw[bG,bG]at this;rw[VM.K7];exact this.symm
 have ar:aV (bw t) H' (.ref D) (VM.pins (VM.bg false l) ms):=⟨D,ys,rfl,U,z.imp λy o q=>by
  mleft;obtain⟨b,d,x2,bm,a2,e,g1,g2⟩:=q;mright;exact⟨x2,bm,a2,b,e,cP _ _ g1,cP _ _ g2,Y _ _ d⟩⟩
 have bn:OU (VM.pins (VM.bg false l) ms):=⟨bT (VM.Gf _ _) ao,λo ho=>by
  mleft;obtain⟨o',br,v,hv,rfl⟩:=VM.vx _ _ _ ho;mright;obtain⟨g1,g2⟩:=(yG false J).2 o' br;exact⟨by show(List.map _ _).length=4;rw[bG];exact g1,g2⟩⟩
 obtain⟨x,hx⟩:∃x,(VM.AM M wc c l l.length ms)[a]?=some x:=⟨_,cu O⟩;have bt:=cI hx;have av:=g6.mp bt;mleft;obtain⟨f1,f2,f3,f4⟩:=VM.dM hM J (g6.mp av.1).1;mright;have bv:x.marks=ms:=by
  have:=av.2;rw[lK,<-f1,eG]at this;exact this
 cbv;try simp only[N]
 cbv;refine⟨.ref D,tv,a,_,_,_,L,c,n',rfl,ar,bn,VM.Q2 _ _,VM.Wx (VM.vo l) _,hT.same (u.trans Y),hK,bi,bl,by rw[show(VM.ji (VM.cutsOf M).1 (VM.aT M wc)).all=(VM.cutsOf M).1 from rfl,ap];exact O,λwx as H3 s3 bx b1=>?_⟩
 cbv;refine⟨aG,λq hq=>?_⟩;have sq:=au (o:=.tup [.ref nx,.ref wx]) hq;refine k q nx wx x _ ((u.trans Y).trans (s3.trans sq)) (f▸hx) af ?_ ?_
 .rw[sq _ _ (s3 _ _ be),bv]
 have e2:some x.alts=some as:=by
  rw[<-b1,VM.K7,<-cM];show _=((((VM.pF (VM.cutsOf M).1 (VM.aT M wc) 0 (VM.pins (VM.bg false l) ms)).filter λy=>y.2==c).map (·.1)))[a]?;rw[<-an,cM,hx];rfl
 rw[sq _ _ bx,cp e2]
end
section
abbrev Bq(Y U T Q:V):List (Str×V):=[("count",Y),("syllables",U),("ways",T),("cost",Q)]
def rY(ps:List (List Sw66.Alt))(as:List Nat):List Nat:=(ps.zip as).map λp=>(p.1.getD p.2 ⟨0,[]⟩).cost
theorem Lw:∀(ps:List (List Sw66.Alt)) (as:List Nat),VM.dw true ps as=(rY ps as).sum
 |ways::ps,a::as=>by
  unfold VM.dw rY;rw[Lw ps as,ag rfl,rG,bM,js];rfl
 |[],as=>by simp[VM.dw,rY]
 |_::_,[]=>by simp[VM.dw,rY]
theorem QK:∀l:List Nat,(l.map λn:Nat=>(n:Int)).sum=((l.sum:Nat):Int)
 |[]=>rfl
 |n::l=>by rw[bM,js,js,QK l,vQ]
def vj(t:Ad):Sp:=λvs H Q _=>X9 λ(p T q O Y:Addr) (N L:V) (M:Sw66.Metre) (as:List Nat)=>Y8 (vs=[.ref p,N,.ref q,L]) (H p=some (.ins t.dj T [])) (H q=some (.tup [.ref O,.ref Y])) (H Y=some (.lst (as.map iV))) (cS t H L M) (as.length=M.places.length) (∀(i a:Nat) ways,as[i]?=some a->M.places[i]?=some ways->a<ways.length) (∀U,aq p H U->U p=some (.ins t.dj T (Bq N (.ref O) (.ref Y) (.int (VM.dw true M.places as:Nat))))->Q .aX U)
theorem G4(T:Txt K mg t):aM P w K mg base bX 2 t.uu t.oA ["self","count","path","metre"] (vj t):=by
 refine T.vw.ok kD (λvs H Q E h=>?_) (λa9 A ab s H vs Q E hr h=>?_)
 .mleft;obtain⟨p,U,q,r,m,O,mv,M,as,rfl,_⟩:=h;mright;rfl
 mleft;obtain⟨p,U,q,r,m,O,mv,M,as,rfl,o,b,hw,hM,al,am,k⟩:=h;mright;mleft;obtain⟨aQ,mx,ba,pv,gv,rfl,L,⟨l,an,rfl,J,zp⟩,hg⟩:=id hM;mright;have MO:=VM.fz.of aQ;have nq:q≠p:=λe=>by rw[e,o]at b;cases b
 have ap:m≠p:=λe=>by rw[e,o]at hw;cases hw
 have nm:mx≠p:=λe=>by rw[e,o]at L;simp at L
 have ar:l≠p:=λe=>by rw[e,o]at J;cases J
 refine⟨_,ah (g9 T.dS T.uH (pv 0) (pv 1))
  (ah (g9 T.dS T.jM (pv 0) (aS (bW K) (pv 2) (ax) (λ_ _=>rfl)))
  (ah (g9 T.dS T.kC (pv 0) (aS (bW K) (pv 2) (ax) (λ_ _=>rfl)))
  (ak (g9 T.dS T.oS (pv 0) (bH (abr rfl) ay T.abg VS.boot_sum (aa (iX rfl kD.nd (gB ay T.c7 (aa (aF T.fm T.jh (pv 3)) ai)) (b6 (own:=[("place",4),("ways",5)]) ay) (λ_ _ _ _ _=>(gk K 2 rfl (bu (aE (i:=4) kD.nd rfl aI) (bu (aE (i:=5) kD.nd rfl aI) d9)))) (λ_ _ _ _ _=>cW) (λ_ _ _ _ _=>(aF T.ph T.sM (aS (bF K) (pv 5) (aS (bF K) (aF T.dS T.kC (pv 0)) (pv 4) (λ_ _=>rfl)) (λ_ _=>rfl))))) ai)))))),?_⟩
 cbv;refine⟨by show 0<1000;decide,?_⟩
 cbv;refine⟨_,_,.of (by rw[aj nq];exact b),rfl,?_⟩
 cbv;cbv;refine⟨by show 1<1000;decide,?_⟩
 cbv;refine⟨_,_,.of (by rw[aj nq,aj nq];exact b),rfl,?_⟩
 cbv;cbv;refine⟨by show 2<1000;decide,?_⟩
 have I:aq p H (upd (upd (upd H p (.ins t.dj U [("count",O)])) p (.ins t.dj U [("count",O),("syllables",.ref r)])) p (.ins t.dj U [("count",O),("syllables",.ref r),("ways",.ref m)])):=(aq.upd.trans aq.upd).trans aq.upd;generalize j:upd (upd (upd H p (.ins t.dj U [("count",O)])) p (.ins t.dj U [("count",O),("syllables",.ref r)])) p (.ins t.dj U [("count",O),("syllables",.ref r),("ways",.ref m)])=H1 at I;have g:H1 p=some (.ins t.dj U [("count",O),("syllables",.ref r),("ways",.ref m)]):=by rw[<-j];exact af
 clear j;have av:=I _ _ ap hw;have bb:=I _ _ nm L;have f:=I _ _ ar J;cbv;refine VP (a:=l) (H1:=H1) (λR q=>by cbv;exact q) (.of f) (λi ys _=>ys=((rY M.places as).take i).map iV) (λi ys A B s h=>h) rfl (λD i y H' hD hy pr=>?_) (λD H' hD pr=>?_)
 .mleft;obtain⟨N,ys,G,e⟩:=pr;mright;mleft;obtain⟨ways,C,aL,bc,rfl,v,zw⟩:=zp.get hy;mright;have bd:=(dE.mp C).1;have a0:i<as.length:=by lia
  have u:as[i]?=some as[i]:=cu a0;have d:=am i _ ways u C;mleft;obtain⟨y,a1,a2,be,rx,rfl,Y,a8⟩:=zw.get' (cu d);mright;have a3:aL≠p:=λe=>by rw[e,o]at v;cases v
  have c:a2≠p:=λe=>by rw[e,o]at Y;simp at Y
  have a4:=N _ _ (I _ _ c Y);have a5:=N _ _ g;cbv;refine⟨_,_,.of (N _ _ av),bE (by rw[cM,u];rfl),?_⟩
  refine⟨_,_,.of (N _ _ (I _ _ a3 v)),bE a1,?_⟩;cbv;refine dW.next hD N G ?_ ?_
  .rw[e,bG,iA];have:=MO.p8;exact d8 (F8 _ _) (eE (show i<9 by lia) aG)
  have a6:(rY M.places as)[i]?=some (ways[as[i]]).cost:=by
   unfold rY;rw[cM,List.getElem?_zip_eq_some (z:=(ways,as[i])).mpr ⟨C,u⟩];simp[dU,cu d]
  rw[e,bo a6,jK];rfl
 mleft;obtain⟨N,ys,G,e⟩:=pr;mright;have a7:(rY M.places as).length=an.length:=by
  unfold rY;rw[bG,List.length_zip,al,Nat.min_self];exact zp.1.symm
 rw[<-a7,eG]at e;have a5:=N _ _ g;cbv;refine⟨D,(rY M.places as).map λn:Nat=>(n:Int),rfl,.of (by rw[G,e,cf];rfl),?_⟩
 cbv;refine⟨by show 3<1000;decide,?_⟩
 refine k _ ((I.trans (.of N)).trans aq.upd) ?_;rw[af,QK,<-Lw]
theorem MV{H:Hp}{Q:Addr->Hp->Prop}{E:L2.XK}{N L:V}{q J T:Addr}{M:Sw66.Metre}{as:List Nat}(C:H q=some (.tup [.ref J,.ref T]))(B:H T=some (.lst (as.map iV)))(A:cS t H L M)(I:as.length=M.places.length)(G:∀(i a:Nat) ways,as[i]?=some a->M.places[i]?=some ways->a<ways.length)
  (k:∀x Y U,H x=none->aw H U->U x=some (.ins t.dj Y (Bq N (.ref J) (.ref T) (.int (VM.dw true M.places as:Nat))))->Q x U):∀x Y,H x=none->H Y=none->Y≠x->vj t [V.ref x,N,.ref q,L] (upd (upd H Y (.own x)) x (.ins t.dj Y [])) (λv z=>v=.aX/\Q x z) E:=by
 intro x Y D hd n;have O:aw H (upd (upd H Y (.own x)) x (.ins t.dj Y [])):=(au hd).trans (au (by rw[aj (bq n)];exact D))
 exact⟨x,Y,q,J,T,N,L,M,as,rfl,af,O _ _ C,O _ _ B,A.same O,I,G,λU y u=>⟨rfl,k x Y U D (aq.dJ O y D) u⟩⟩
def O7(t:Ad)(H:Hp)(v:V)(n:Nat)(M:Sw66.Metre)(x:Sw66.Scan):Prop:=X4 λY Q U T=>Y4 (v=.ref Y) (H Y=some (.ins t.dj Q (Bq (.int n) (.ref U) (.ref T) (.int (Sw66.cost M x:Nat))))) (H U=some (.lst (x.marks.map iV))) (H T=some (.lst (x.alts.map iV)))
theorem RZ(all:Nat):∀(gm:VM.GM) (met:Nat) (os:List VM.Off),∀p∈VM.aU all gm met os,∀(i a:Nat) ways,p.alts[i]?=some a->gm[i]?=some ways->a<ways.length
 |[],met,os,p,O,i,a,ways,_,h=>by simp at h
 |v::gm,met,os,p,O,i,a,ways,A,z=>by
  unfold VM.aU at O;obtain⟨w,N,M⟩:=G3.mp O;obtain⟨Y,L,rfl⟩:=bS.mp M;have row:∀(row:List (Nat×Nat)) (os:List VM.Off) (met:Nat) (Y:VM.Path),Y∈VM.bP (VM.aU all gm) os row met->∃T J U,U∈VM.aU all gm T J/\Y.alts=U.alts:=by
   intro row os
   induction os generalizing row with
   |nil =>
    intro met Y h;cases row with
    |nil=>rw[VM.c9]at h;exact⟨met,[],Y,h,rfl⟩
    |cons m r=>simp[VM.bP]at h
   |cons o os y =>
    intro met Y h;cases row with
    |nil=>rw[VM.c9]at h;exact⟨met,o::os,Y,h,rfl⟩
    |cons m r =>
     obtain⟨q,n⟩:=m;unfold VM.bP at h;rcases lV.mp h with h|h
     .split at h
      .obtain⟨U,Q,rfl⟩:=bS.mp h;mleft;obtain⟨I,H,G,E,D⟩:=y _ _ _ Q;mright;exact⟨I,H,G,E,D⟩
      simp at h
     split at h
     .simp at h
     obtain⟨U,Q,rfl⟩:=bS.mp h;mleft;obtain⟨I,H,G,E,D⟩:=y _ _ _ Q;mright;exact⟨I,H,G,E,D⟩
  cases i with
  |zero =>
   have C:w.2=a:=by simpa[VM.Path.alt]using A
   have B:v=ways:=by simpa using z
   have:=(VM.lH (d:=w.1) N).2.2;rw[<-C,<-B];simpa using this
  |succ i =>
   mleft;obtain⟨u,s,U,Q,B⟩:=row _ _ _ _ L;mright;have C:U.alts[i]?=some a:=by rw[<-B];simpa[VM.Path.alt]using A
   exact RZ all gm u s U Q i a ways C (by simpa using z)
theorem Vl{M:Sw66.Metre}{l:Sw66.Line}(U:VM.fz M)(T:VM.eC l){x:Sw66.Scan}(Q:x∈Sw66.scans M l):∀(i a:Nat) ways,x.alts[i]?=some a->M.places[i]?=some ways->a<ways.length:=by
 intro i a ways O N;have Y:=((VM.lZ M l).2.mem_iff).mp Q;have:VM.Je M true x∈VM.PP M true l:=by rw[VM.zY U T];exact bS.mpr ⟨x,Y,rfl⟩
 have:=RZ _ _ _ _ _ this i a _ O (HW (wc:=true) N);rw[bG]at this;exact this
def Ge(K:W.Frag)(t:Ad):Sp:=λvs H Q E=>X6 λ(U T:V) (l:Sw66.Line) (M:Sw66.Metre) (n:Nat) (wc:Bool)=>Y5 (vs=[U,T,.int n,.bl wc]) (lp t H U l) (cS t H T M) (VM.S (VM.PP M wc l)=none->Refs K t E (-6) (aw H)) (∀c m,VM.S (VM.PP M wc l)=some (c,m)->(m<=n->Refs K t E (-6) (aw H))/\∀x,(VM.TL M wc c l)[n]?=some x->∀v Y,aw H Y->O7 t Y v m M x->Q v Y)
theorem aby{M:Sw66.Metre}{l:Sw66.Line}{wc:Bool}(Y:VM.fz M)(U:VM.eC l){c m:Nat}(h:VM.S (VM.PP M wc l)=some (c,m)):(VM.TL M wc c l).length=m:=by
 have:=VM.KR Y U (VM.Km h) λ_=>true;rw[ub.mpr λ_ _=>rfl,ub.mpr λ_ _=>rfl,h]at this;rw[<-this];show(if c=c then m else 0)=m
 rw[ag rfl]
theorem vK(T:Txt K mg t)(O:fM K t):aM P w K mg base (jB P w) 16 t.tV t.oJ ["line","metre","number","by_cost"] (Ge K t):=by
 refine m8 T.kG iC (λvs H Q E h=>?_) (λab A y s H vs Q E hr h=>?_)
 .mleft;obtain⟨f,mv,l,M,n,wc,rfl,_⟩:=h;mright;rfl
 mleft;obtain⟨f,mv,l,M,n,wc,rfl,d,N,kN,kS⟩:=h;mright;have J:=VM.fz.of N.1;have I:=VM.eC.of d.2;obtain⟨Y,b⟩:=YW J wc;refine⟨_,ah (aH (i:=4) iC.nd rfl aI (aB (C2 T) aN ay T.CZ T.pC.kp (Dm T) .nil aC (aa (pv 0) (aa (i9) ai))))
  (ah (aH (i:=5) iC.nd rfl aI (d7 T.Pr (B8 T) aN ay T.O2 (BH T) .nil aC (aa (pv 1) (aa (pv 3) ai))))
  (ah (aH (i:=6) iC.nd rfl aI (aB (oE T) aN ay T.oo T.ib.kp (oR T) .nil aC (aa (pv 4) (aa (pv 5) ai))))
  (ah (aH (i:=7) iC.nd rfl aI (aB (sI T) aN ay T.rZ T.kW.kp (sf T) .nil aC (aa (pv 6) ai)))
  (ah (bZ ((qj (aW Hq (pv 7) (jc) (aR _)) (nU (aW Nz (pv 2) (aS (bW K) (pv 7) (ax) (λ_ _=>rfl)) (aR _)))).pt) (ak (jx rfl fU O.OW O.in6 O.fn6 (nv T O) aN ay T.vE (nE T))) bp)
  (ak (aK (d7 T.QO (G4 T) aN ay T.QS (Gy T) .nil aC (aa (aS (bW K) (pv 7) (ax) (λ_ _=>rfl)) (aa (aB (PZ T) aN ay T.Qz T.vz.kp (QJ T) .nil aC (aa (pv 4) (aa (pv 5) (aa (pv 6) (aa (pv 2) ai))))) (aa (pv 1) ai)))))))))),?_⟩
 cbv;refine⟨f,l,false,rfl,d,λL H1 a u=>?_⟩;cbv;refine Jn (N.same a) λtx H2 al s2 G=>?_;cbv;have D:aV (bw t) H2 L (VM.bg false l):=aV.same bw.mn s2 (aV.same bw.mn cP u);refine⟨L,.ref tx,VM.bg false l,_,_,Y,rfl,D,yG false I,G.same cP,b,λtb H3 am r C=>?_⟩;have p:=(G.same cP).same r;have o:=aV.same bw.mn r D;have U:=a.trans (s2.trans r);cbv;refine⟨tb,_,_,_,Y,rfl,C,λv hv=>?_⟩;rw[show vl (VM.aT M wc) (VM.ji (VM.cutsOf M).1 (VM.aT M wc)) Y (VM.bg false l) 0 0=VM.S (VM.PP M wc l)from VM.uQ _ _ _ _]at hv;cbv;rcases hv with⟨e,rfl⟩|⟨⟨c,m⟩,e,lx,rfl,B⟩
 .rw[ag rfl];exact gP ⟨O.OW,O.YS⟩ ((kN e).imp λH' s=>U.trans s)
 rw[ae aP];cbv;obtain⟨kE,k⟩:=kS c m e;have an:=aby J I e;cbv;refine⟨_,_,.of B,rfl,?_⟩;cbv;by_cases cn:m<=n
 .rw[ag (by show((m:Int)<=_);lia)]
  exact gP ⟨O.OW,O.YS⟩ ((kE cn).imp λH' s=>U.trans s)
 rw[ae (by show ¬((m:Int)<=_);lia)]
 cbv;refine⟨_,_,.of B,rfl,?_⟩;cbv;refine⟨L,.ref tx,tb,n,M,wc,l,Y,c,m,rfl,J,I,o,p,b,C,e,ao,λq nx wx x H4 s4 hx hq hn hw=>?_⟩;have z:=(g6.mp (cI hx)).1;mleft;obtain⟨f1,f2,f3,f4⟩:=VM.dM J I z;mright;cbv;refine MV hq hw (N.same (U.trans s4)) f2 (Vl J I z) λsx j H5 ap g h5=>?_;refine k x hx _ H5 (U.trans (s4.trans g)) ⟨sx,j,nx,wx,rfl,?_,g _ _ hn,g _ _ hw⟩;rw[h5,VM.K5]
def HE(K:W.Frag)(t:Ad):Sp:=λvs H Q E=>X5 λ(U T:V) (l:Sw66.Line) (M:Sw66.Metre) (n:Nat)=>Y5 (vs=[U,T,.int n]) (lp t H U l) (cS t H T M) ((Sw66.scans M l)[n]?=none->Refs K t E (-6) (aw H)) (∀x,(Sw66.scans M l)[n]?=some x->∀v Y,aw H Y->O7 t Y v (Sw66.scans M l).length M x->Q v Y)
theorem IQ(T:Txt K mg t)(G:fM K t):aM P w K mg base (jB P w) 18 t.vU t.qc ["line","metre","number"] (HE K t):=by
 refine m8 T.qd HL (λvs H Q E h=>?_) (λD A U s H vs Q E hr h=>?_)
 .mleft;obtain⟨O,N,l,M,n,rfl,_⟩:=h;mright;rfl
 mleft;obtain⟨O,N,l,M,n,rfl,L,Y,J,C⟩:=h;mright;obtain⟨B,I⟩:=VM.aap (VM.fz.of Y.1) (VM.eC.of L.2);refine⟨_,ak (aK (aB (vK T G) aN ay T.vq T.kG.kp (wq T) .nil iD (aa (pv 0) (aa (pv 1) (aa (pv 2) (aa (i9) ai)))))),?_⟩;cbv;refine⟨O,N,l,M,n,false,rfl,L,Y,λe=>J ?_,λc m e=>?_⟩
 .rw[I]at e;split at e
  .rename_i q;rw[q];rfl
  cases e
 rw[I]at e;split at e
 .cases e
 have e:=cp e;obtain⟨z,y⟩:=IT e;subst z y;rw[B];exact⟨λq=>J (nz q),C⟩
def Bi(K:W.Frag)(t:Ad):Sp:=λvs H Q E=>X4 λ(U T:V) (l:Sw66.Line) (M:Sw66.Metre)=>Y5 (vs=[U,T]) (lp t H U l) (cS t H T M) (Sw66.cheapest M l=[]->Refs K t E (-6) (aw H)) (∀x,(Sw66.cheapest M l)[0]?=some x->∀v Y,aw H Y->O7 t Y v (Sw66.cheapest M l).length M x->Q v Y)
theorem AV(T:Txt K mg t)(C:fM K t):aM P w K mg base (jB P w) 18 t.m9 t.ke ["line","metre"] (Bi K t):=by
 refine m8 T.kc Bl (λvs H Q E h=>?_) (λB A U s H vs Q E hr h=>?_)
 .mleft;obtain⟨O,N,l,M,rfl,_⟩:=h;mright;rfl
 mleft;obtain⟨O,N,l,M,rfl,L,Y,J,y⟩:=h;mright;have I:=VM.SJ (VM.fz.of Y.1) (VM.eC.of L.2);refine⟨_,ak (aK (aB (vK T C) aN ay T.vq T.kG.kp (wq T) .nil iD (aa (pv 0) (aa (pv 1) (aa (ax) (aa (i9) ai)))))),?_⟩;cbv;refine⟨O,N,l,M,0,true,rfl,L,Y,λe=>J ?_,λc m e=>?_⟩
 .rcases I with⟨_,q⟩|⟨a,q,_⟩
  .exact q
  rw[q]at e;cases e
 rcases I with⟨q,_⟩|⟨a,q,G,D,v⟩
 .rw[q]at e;cases e
 rw[q]at e;have e:=cp e;subst e;dsimp only at G D;rw[<-G,D];exact⟨λz=>J (UL (Nat.le_zero.mp z)),y⟩
def J1(K:W.Frag)(t:Ad):Sp:=λvs H Q E=>X4 λ(Y U:V) (l:Sw66.Line) (M:Sw66.Metre)=>Y5 (vs=[Y,U]) (lp t H Y l) (cS t H U M) (Sw66.mends M l=none->Refs K t E (-6) (aw H)) (∀n,Sw66.mends M l=some n->∀T,aw H T->Q (.int (n:Nat)) T)
theorem Ht(T:Txt K mg t)(U:fM K t):aM P w K mg base (jB P w) 12 t.wA t.pW ["line","metre"] (J1 K t):=by
 refine m8 T.qm wO (λvs H Q E h=>?_) (λg A J s H vs Q E hr h=>?_)
 .mleft;obtain⟨z,f,l,M,rfl,_⟩:=h;mright;rfl
 mleft;obtain⟨z,f,l,M,rfl,y,O,u,r⟩:=h;mright;have q:=VM.fz.of O.1;have p:=VM.eC.of y.2;rw[VM.XE q p]at u r;obtain⟨Y,d⟩:=YW q false;refine⟨_,ah (aH (i:=2) wO.nd rfl aI (aB (sI T) aN ay T.rZ T.kW.kp (sf T) .nil aC (aa (aB (oE T) aN ay T.oo T.ib.kp (oR T) .nil aC (aa (aB (C2 T) aN ay T.CZ T.pC.kp (Dm T) .nil aC (aa (pv 0) (aa (i9) ai))) (aa (d7 T.Pr (B8 T) aN ay T.O2 (BH T) .nil aC (aa (pv 1) (aa (i9) ai))) ai))) ai)))
  (ah (bZ (aW Hq (pv 2) (jc) (aR _)) (ak (jx rfl fU U.OW U.in6 U.fn6 (nv T U) aN ay T.vE (nE T))) bp)
  (ak (aK (aS (bW K) (pv 2) (ax) (λ_ _=>rfl))))),?_⟩
 cbv;refine⟨z,l,true,rfl,y,λN H1 o I=>?_⟩;cbv;refine Jn (O.same o) λb a ab n G=>?_;cbv;have D:aV (bw t) a N (VM.bg true l):=aV.same bw.mn n (aV.same bw.mn cP I);refine⟨N,.ref b,VM.bg true l,_,_,Y,rfl,D,yG true p,G.same cP,d,λtb H3 al s3 C=>?_⟩;have L:=o.trans (n.trans s3);cbv;refine⟨tb,_,_,_,Y,rfl,C,λv j=>?_⟩;rw[show vl (VM.aT M false) (VM.ji (VM.cutsOf M).1 (VM.aT M false)) Y (VM.bg true l) 0 0=VM.S (VM.PM M l)from VM.uQ _ _ _ _]at j;cbv;rcases j with⟨e,rfl⟩|⟨⟨c,m⟩,e,lx,rfl,B⟩
 .rw[ag rfl];exact gP ⟨U.OW,U.YS⟩ ((u (by rw[e];rfl)).imp λH' s=>L.trans s)
 rw[ae aP];cbv;refine⟨_,_,.of B,rfl,?_⟩;exact r c (by rw[e];rfl) H3 L
end
section
variable{H' Hm H0:Hp}{mx:Addr}
section
theorem acW{tl:TE}{g:TG}{U:TT}{T:TE}{vs:List Nat}{σ:L2.St}{H:Hp}{Q:VK}(P:Addr->Hp->Prop)(Y:∀R:VK,(∀a H1,P a H1->R (.ref a) H1)->tl σ H R)(go:∀a H1,P a H1->vV (Az K (λ_ _ R=>R (.ref a) H1)) g U T vs σ H Q):vV (Az K tl) g U T vs σ H Q:=Y _ λa H1 p=>go a H1 p
def jq(t:Ad)(H:Hp)(mx:Addr)(s:List Sw66.Metre):Prop:=∃ys,H mx=some (.lst ys)/\Zp (cS t (del H mx)) ys s
theorem Vp{H:Hp}(s:aq mx H H'):aw (del H mx) (del H' mx):=λb o q=>by
 by_cases e:b=mx
 .rw[e,kh]at q;cases q
 rw[eN e]at q ⊢;exact s b o e q
theorem ve{H:Hp}:aw (del H mx) H:=λb o q=>by
 by_cases e:b=mx
 .rw[e,kh]at q;cases q
 rw[eN e]at q;exact q
theorem jq.same{H:Hp}{s:List Sw66.Metre}(Y:aw H H')(h:jq t H mx s):jq t H' mx s:=by
 obtain⟨ys,U,T⟩:=h;exact⟨ys,Y _ _ U,T.imp λy a q=>q.same (Vp (.of Y))⟩
theorem jq.list{H:Hp}{s:List Sw66.Metre}(h:jq t H mx s):aV (cS t) H (.ref mx) s:=by
 obtain⟨ys,Y,U⟩:=h;exact⟨mx,ys,rfl,Y,U.imp λy a q=>q.same ve⟩
def yY(K:W.Frag):Sp:=λvs H Q _=>X2 λ(a:Addr) (xs:List V)=>Y4 (vs=[.ref a]) (H a=some (.lst xs)) (xs.length+1<=sizeLine) (∀r H',H r=none->aw H H'->H' r=some (.lst (.int xs.length::xs))->Q (.ref r) H')
theorem eW(T:Txt K mg t):aM P w K mg base bX 2 t.xZ t.rn ["row"] (yY K):=by
 refine T.dC.ok KL (λvs H Q E h=>?_) (λM A U s H vs Q E hr h=>?_)
 .mleft;obtain⟨a,xs,rfl,_⟩:=h;mright;rfl
 mleft;obtain⟨a,xs,rfl,N,hz,k⟩:=h;mright;refine⟨_,ak (aK (bh qa (dt (aa (bH (mq K) ay T.dk PySem.boot_len (aa (pv 0) ai)) ai)) (pv 0))),?_⟩;cbv;refine⟨_,.inl (.of N),aG,λq L=>?_⟩;have O:=au (o:=.lst [.int xs.length]) L;refine⟨q,a,_,_,rfl,rfl,af,O _ _ N,by show 1+xs.length<=sizeLine;lia,λr Y=>?_⟩
 exact k r _ (O.free Y) (O.trans (au Y)) af
def Rw(K:W.Frag)(t:Ad):Sp:=λvs H Q E=>X3 λ(a:Addr) (xs:List V) (n:Nat)=>Y4 (vs=[.ref a,.int n]) (H a=some (.lst xs)) (xs.length<=n->Refs K t E (-2) (aw H)) (∀v,xs[n]?=some v->Q v H)
theorem nS(T:Txt K mg t)(Y:fM K t):aM P w K mg base (jB P w) 4 t.Ha t.yf ["metres","number"] (Rw K t):=by
 refine m8 T.jz Q3 (λvs H Q E h=>?_) (λM A U s H vs Q E hr h=>?_)
 .mleft;obtain⟨a,xs,n,rfl,_⟩:=h;mright;rfl
 mleft;obtain⟨a,xs,n,rfl,O,L,k⟩:=h;mright;refine⟨_,ah (bZ (aW Nz (pv 1) (bH (mq K) ay T.dk PySem.boot_len (aa (pv 0) ai)) (aR _)) (ak (jx rfl fU Y.Yz Y.in2 Y.fn2 (qQ T Y) aN ay T.zr (qO T))) bp)
  (ak (aK (aS (bF K) (pv 0) (pv 1) (λ_ _=>rfl)))),?_⟩
 cbv;refine⟨_,.inl (.of O),?_⟩;by_cases c:xs.length<=n
 .rw[ag ao];exact gP ⟨Y.Yz,Y.em2⟩ (L c)
 rw[ae ao];cbv;have N:n<xs.length:=by lia
 refine⟨_,_,.of O,bE (cu N),k _ (cu N)⟩
structure wj(K:W.Frag)(t:Ad)(x:Sw66.Call)(s:List Sw66.Metre)(mx p dx nums:Addr)(Hm H0 H:Hp):Prop where
 sub:aw Hm H0
 sm:aw H0 H
 fr:H0 p=none
 ms:jq t Hm mx s
 s8:s.length<=8
 rd:dv K t H p dx nums (VM.EC x) 1
 ok:VM.Oq x
def Na(t:Ad)(x:Sw66.Call)(s:List Sw66.Metre)(mx:Addr)(Hm H0:Hp)(Q:VK):Prop:=∀q zs H' Y,aq mx H0 H'->aw Y H'->(∀b,H0 b≠none->Hm b=none->Y b=none)->jq t Y mx (Sw66.step s x).1->H' q=some (.lst (zs.map V.int))->zs=Sw66Neutral.out (Sw66.step s x).2->Q (.ref q) H'
def xP(K:W.Frag)(t:Ad)(x:Sw66.Call):Sp:=λvs H Q E=>X7 λ(mx p U Y:Addr) (Hm H0:Hp) (s:List Sw66.Metre)=>Y4 (vs=[.ref mx,.ref p]) (wj K t x s mx p U Y Hm H0 H) (Na t x s mx Hm H0 Q) (∀n,Sw66.step s x=(s,Sw66.ok n)->Refs K t E n (aw H0))
def mix(Hm H0 H':Hp):Hp:=λb=>match Hm b with
 |some _=>H' b
 |none=>match H0 b with
  |some _=>none
  |none=>H' b
theorem RB:aw (mix Hm H0 H') H':=λb o q=>by
 unfold mix at q;split at q
 .exact q
 split at q
 .cases q
 exact q
theorem WA:∀b,H0 b≠none->Hm b=none->mix Hm H0 H' b=none:=λb Y U=>by
 unfold mix;rw[U];cases T:H0 b with
 |none=>exact absurd T Y
 |some o=>rfl
theorem KN{b:Addr}{o:HO}(h:Hm b=some o):mix Hm H0 H' b=H' b:=by unfold mix;rw[h]
theorem aad{b:Addr}(h:Hm b=none)(Y:H0 b=none):mix Hm H0 H' b=H' b:=by unfold mix;rw[h,Y]
theorem W9(l:List Nat):(l.map λn:Nat=>(n:Int)).map V.int=l.map iV:=by rw[cf];rfl
section
variable{x:Sw66.Call}{s:List Sw66.Metre}{mx p dx nums:Addr}{Hm H0 H:Hp}{Q:VK}{E:L2.XK}
theorem wj.Pw(D:wj K t x s mx p dx nums Hm H0 H):jq t H0 mx s:=D.ms.same D.sub
theorem wj.fin(D:wj K t x s mx p dx nums Hm H0 H)(k:Na t x s mx Hm H0 Q){a:Sw66.Ans}(e:Sw66.step s x=(s,a)){q:Addr}{zs:List Int}{H':Hp}(Y:aw H0 H')(h:H' q=some (.lst (zs.map V.int)))(hz:zs=Sw66Neutral.out a):Q (.ref q) H':=
 k q zs H' Hm (.of Y) (D.sub.trans Y) (λb _ h=>h) (by rw[e];exact D.ms) h (by rw[e];exact hz)
theorem wj.ref(D:wj K t x s mx p dx nums Hm H0 H)(Y:∀n,Sw66.step s x=(s,Sw66.ok n)->Refs K t E n (aw H0)){n:Int}(e:Sw66.step s x=(s,Sw66.ok n)):Refs K t E n (aw H0):=Y n e
end
def Mf(K:W.Frag)(t:Ad):Sp:=λvs H Q E=>xP K t .begins vs H Q E
theorem WV(T:Txt K mg t)(G:fM K t):aM P w K mg base (jB P w) 2 t.begins t.DY ["metres","reader"] (Mf K t):=by
 refine m8 T.Eg Vv (λvs H Q E h=>?_) (λL A O s H vs Q E hr h=>?_)
 .mleft;obtain⟨mx,p,J,Y,Hm,H0,s,rfl,_⟩:=h;mright;rfl
 mleft;obtain⟨mx,p,J,Y,Hm,H0,C,rfl,D,k,B⟩:=h;mright;obtain⟨ys,N,hz⟩:=D.ms;have U:=D.sm _ _ (D.sub _ _ N);refine⟨_,ah (b8 (VD jC PySem.F.slot_list_clear PySem.F.type_list_clear WZ (pv 0)))
  (ak (aK (dt (aa (ax) ai)))),?_⟩
 cbv;refine⟨sN U,mx,ys,rfl,rfl,U,?_⟩;cbv;refine⟨aG,λq I=>?_⟩;have M:=au (o:=.lst [.int 0]) I;refine k q [0] _ (mix Hm H0 _) (((aq.of D.sm).trans aq.upd).trans (.of M)) RB WA ⟨[],?_,Zp.nil⟩ af rfl;rw[KN N];exact M _ _ af
def Qx(K:W.Frag)(t:Ad):Sp:=λvs H Q E=>∃M,xP K t (.metre M) vs H Q E
theorem W7(T:Txt K mg t)(U:fM K t):aM P w K mg base (jB P w) 10 t.metre t.GO ["metres","reader"] (Qx K t):=by
 refine m8 T.F6 Po (λvs H Q E h=>?_) (λab A G s H vs Q E hr h=>?_)
 .mleft;obtain⟨M,mx,p,m,Y,Hm,H0,s,rfl,_⟩:=h;mright;rfl
 mleft;obtain⟨M,mx,p,m,Y,Hm,H0,N,rfl,D,k,l⟩:=h;mright;obtain⟨ys,L,hz⟩:=D.ms;have I:=D.sub _ _ L;have h8:=D.s8;refine⟨_,ah (aH (i:=2) Po.nd rfl aI (aB (MM T U) aN ay T.MW T.ua.kp (MJ T) .nil iD (aa (pv 1) ai)))
  (ah (bZ (aW fq (bH (mq K) ay T.dk PySem.boot_len (aa (pv 0) ai)) (cH ay T.J9) (aR _)) (ak (jx rfl fU U.xk5 U.in5 U.fn5 (yP T U) aN ay T.Gb (zD T))) bp)
  (ah (b8 (lI jC oj oh fJ (pv 0) (aa (pv 2) ai)))
  (ak (aK (dt (aa (bh yI (bH (mq K) ay T.dk PySem.boot_len (aa (pv 0) ai)) (ax)) ai)))))),?_⟩
 cbv;refine⟨M,p,m,Y,_,[1],[],rfl,D.ok,D.rd,by show _=[1]++(VM.Cq M++[]);rw[iN];rfl,λhf=>?_,λj v H1 s1 hM=>?_⟩
 .exact(D.ref l (by unfold Sw66.step;dsimp only;rw[ag hf])).imp λH' C=>aq.dJ D.sm C D.fr
 have B:=aq.dJ D.sm s1 D.fr;have O:=B _ _ I;have al:mx≠p:=λe=>by rw[e,D.fr]at I;cases I
 cbv;refine⟨_,.inl (.of O),?_⟩;rw[hz.1];by_cases c8:N.length=8
 .rw[ag ao];cbv;refine gP ⟨U.xk5,U.em5⟩ ((D.ref l ?_).imp λH' C=>B.trans C);unfold Sw66.step;dsimp only;rw[ae (by rw[j];simp),ag (by show 8<=_;lia)]
 rw[ae ao];cbv;have z:Sw66.step N (.metre M)=(N++[M],Sw66.ok (N.length:Nat)):=by
  unfold Sw66.step;dsimp only;rw[ae (by rw[j];simp),ae (by show ¬8<=_;lia)]
 unfold Na at k;rw[z]at k;cbv;refine⟨sN O,?_⟩;refine iW O (by rw[hz.1];exact d8 h8 aG) λH2 bt g=>?_
 cbv;refine⟨_,.inl (.of g),aG,λq hq=>?_⟩;have u:=au (o:=.lst [.int ((ys++[v]).length - 1:Int)]) hq;have J:aq mx H1 H2:=λb f n q=>(bt b n).trans q;have d:aq mx H0 (upd H2 q (.lst [.int ((ys++[v]).length - 1:Int)])):=((aq.of B).trans J).trans (.of u);refine k q [(N.length:Nat)] _ (mix Hm H0 _) d RB WA ⟨ys++[v],?_,?_⟩ ?_ rfl
 .rw[KN L];exact u _ _ g
 .refine(hz.imp λy a q=>q.same ?_).snoc (hM.same ?_)
  .intro b f q;by_cases e:b=mx
   .rw[e,kh]at q;cases q
   rw[eN e]at q ⊢;rw[KN q];exact d _ _ e (D.sub _ _ q)
  intro b f q;obtain⟨r,q2⟩:=mI q;have e:b≠mx:=λe=>by rw[e,D.sm _ _ I]at r;cases r
  have c:=D.sm.free r;rw[eN e,aad (D.sub.free c) c];exact u _ _ (J _ _ e q2)
 rw[af,ee,hz.1];simp
def Ou(K:W.Frag)(t:Ad):Sp:=λvs H Q E=>X2 λk l=>xP K t (.scans k l) vs H Q E
theorem Xe(T:Txt K mg t)(u:fM K t):aM P w K mg base (jB P w) 10 t.scans t.Hd ["metres","reader"] (Ou K t):=by
 refine m8 T.GH PY (λvs H Q E h=>?_) (λm A L s H vs Q E hr h=>?_)
 .mleft;obtain⟨k,l,mx,p,r,O,Hm,H0,s,rfl,_⟩:=h;mright;rfl
 mleft;obtain⟨n,l,mx,p,r,O,Hm,H0,J,rfl,D,k,o⟩:=h;mright;obtain⟨ys,j,hz⟩:=id D.Pw;refine⟨_,ah (aH (i:=2) PY.nd rfl aI (aB (nS T u) aN ay T.nR T.jz.kp (nV T) .nil iD (aa (pv 0) (aa (b5 (pv 1) T.bj T.bA (bB T) aN (bz T) .nil aC) ai))))
  (ak (aK (dt (aa (aB (mB T) aN ay T.my T.gg.kp (l7 T) .nil aC (aa (d7 T.Gm (ue T) aN ay T.Ga (t8 T) .nil aC (aa (aB (jZ T u) aN ay T.jS T.f6.kp (j7 T) .nil iD (aa (pv 1) ai)) ai)) (aa (pv 2) ai))) ai)))),?_⟩
 cbv;refine⟨_,_,D.rd.obj,rfl,gH (z:=(n:Int)) D.rd rfl λH1 g f=>?_⟩;have Y:=aq.dJ D.sm g D.fr;cbv;refine⟨mx,ys,n,rfl,Y _ _ j,λc=>?_,λe d=>?_⟩
 .refine(D.ref o ?_).imp λH' I=>Y.trans I;unfold Sw66.step;dsimp only;rw[nz (by rw[<-hz.1];exact c)]
 obtain⟨M,G,b⟩:=hz.get d;have C:=b.same ve;have U:Sw66.step J (.scans n l)=if Sw66.lineOk l=false then(J,Sw66.ok (-1))else(J,Sw66.ok ((Sw66.scans M l).length:Nat)):=by
  unfold Sw66.step;dsimp only;rw[G];try rfl
 cbv;refine⟨l,p,r,O,_,[2,(n:Int)],[],rfl,D.ok.2.1,f,by rw[iN];rfl,λa=>?_,λB lv H2 s2 R2 hL=>?_⟩
 .exact(D.ref o (by rw[U,ag a])).imp λH' I=>aq.dJ Y I D.fr
 have y:=aq.dJ Y s2 D.fr;rw[B]at U;rw[ae aP]at U;refine Bg (hL.same cP) B λlx H3 ab s3 v=>?_;have N:=y.trans s3;cbv;refine⟨.ref lx,e,l,M,rfl,v.same cP,B,C.same N,λH4 s4=>?_⟩;cbv;refine⟨aG,λq hq=>?_⟩;exact D.fin k U (zs:=[((Sw66.scans M l).length:Nat)]) ((N.trans s4).trans (au hq)) af rfl
def Qm(K:W.Frag)(t:Ad):Sp:=λvs H Q E=>X2 λk l=>xP K t (.mends k l) vs H Q E
theorem Yv(T:Txt K mg t)(J:fM K t):aM P w K mg base (jB P w) 14 t.mends t.GB ["metres","reader"] (Qm K t):=by
 refine m8 T.GQ OX (λvs H Q E h=>?_) (λr A I s H vs Q E hr h=>?_)
 .mleft;obtain⟨k,l,mx,p,v,O,Hm,H0,s,rfl,_⟩:=h;mright;rfl
 mleft;obtain⟨n,l,mx,p,v,O,Hm,H0,G,rfl,D,k,C⟩:=h;mright;obtain⟨ys,o,hz⟩:=id D.Pw;refine⟨_,ah (aH (i:=2) OX.nd rfl aI (aB (nS T J) aN ay T.nR T.jz.kp (nV T) .nil iD (aa (pv 0) (aa (b5 (pv 1) T.bj T.bA (bB T) aN (bz T) .nil aC) ai))))
  (ak (aK (dt (aa (aB (Ht T J) aN ay T.Jl T.qm.kp (JC T) .nil iD (aa (aB (jZ T J) aN ay T.jS T.f6.kp (j7 T) .nil iD (aa (pv 1) ai)) (aa (pv 2) ai))) ai)))),?_⟩
 cbv;refine⟨_,_,D.rd.obj,rfl,gH (z:=(n:Int)) D.rd rfl λH1 j g=>?_⟩;have U:=aq.dJ D.sm j D.fr;cbv;refine⟨mx,ys,n,rfl,U _ _ o,λc=>?_,λf d=>?_⟩
 .refine(D.ref C ?_).imp λH' L=>U.trans L;unfold Sw66.step;dsimp only;rw[nz (by rw[<-hz.1];exact c)]
 obtain⟨M,B,b⟩:=hz.get d;have y:=b.same ve;have Y:Sw66.step G (.mends n l)=if Sw66.lineOk l=false then(G,Sw66.ok (-1))else(G,match Sw66.mends M l with|some n=>Sw66.ok (n:Nat)|none=>Sw66.ok (-6)):=by
  unfold Sw66.step;dsimp only;rw[B];try rfl
 cbv;refine⟨l,p,v,O,_,[6,(n:Int)],[],rfl,D.ok.2.1,g,by rw[iN];rfl,λa=>?_,λu lv H2 s2 R2 hL=>?_⟩
 .exact(D.ref C (by rw[Y,ag a])).imp λH' L=>aq.dJ U L D.fr
 have N:=aq.dJ U s2 D.fr;rw[u]at Y;rw[ae aP]at Y;cbv;refine⟨lv,f,l,M,rfl,⟨hL.same cP,u⟩,y.same N,λe=>?_,λm e H3 s3=>?_⟩
 .rw[e]at Y;exact(D.ref C Y).imp λH' L=>N.trans L
 rw[e]at Y;cbv;refine⟨aG,λq hq=>?_⟩;exact D.fin k Y (zs:=[(m:Nat)]) ((N.trans s3).trans (au hq)) af rfl
def Od(K:W.Frag)(t:Ad):Sp:=λvs H Q E=>∃l,xP K t (.which l) vs H Q E
theorem aa7(s:List Sw66.Metre)(l:Sw66.Line):(Sw66.Line.by_ s l).length<=s.length:=by
 unfold Sw66.Line.by_;exact bT (GL _ _) (by rw[Ec];exact bD _)
theorem Yl(T:Txt K mg t)(v:fM K t):aM P w K mg base (jB P w) 12 t.which t.F5 ["metres","reader"] (Od K t):=by
 refine m8 T.GI Qk (λvs H Q E h=>?_) (λu A N s H vs Q E hr h=>?_)
 .mleft;obtain⟨l,mx,p,I,U,Hm,H0,s,rfl,_⟩:=h;mright;rfl
 mleft;obtain⟨l,mx,p,I,U,Hm,H0,Y,rfl,D,k,m⟩:=h;mright;refine⟨_,ah (aH (i:=2) Qk.nd rfl aI (aB (DG T) aN ay T.Cu T.pQ.kp (Cr T) .nil aC (aa (aB (jZ T v) aN ay T.jS T.f6.kp (j7 T) .nil iD (aa (pv 1) ai)) (aa (pv 0) ai))))
  (ak (aK (bh qa (dt (aa (bH (mq K) ay T.dk PySem.boot_len (aa (pv 2) ai)) ai)) (aB (eW T) aN ay T.eX T.dC.kp (eZ T) .nil aC (aa (pv 2) ai))))),?_⟩
 cbv;refine⟨l,p,I,U,_,[5],[],rfl,D.ok.1,D.rd,by rw[iN];rfl,λj=>?_,λG g H2 f R2 e=>?_⟩
 .exact(D.ref m (by unfold Sw66.step;dsimp only;rw[ag j])).imp λH' d=>aq.dJ D.sm d D.fr
 have O:=aq.dJ D.sm f D.fr;have M:Sw66.step Y (.which l)=(Y,⟨((Sw66.Line.by_ Y l).length:Nat),[Sw66.Line.by_ Y l]⟩):=by
  unfold Sw66.step;dsimp only;rw[ae (by rw[G];simp)]
 have L:=bT (aa7 Y l) D.s8;cbv;refine⟨g,.ref mx,l,Y,rfl,⟨e.same cP,G⟩,(D.Pw.same O).list,D.s8,λr H3 c b C=>?_⟩;cbv;refine⟨_,.inl (.of C),aG,λq a=>?_⟩;have B:=au (o:=.lst [.int ((Sw66.Line.by_ Y l).map iV).length]) a;refine⟨r,_,rfl,B _ _ C,by rw[bG];exact bT (Nat.succ_le_succ L) aG,λr2 H4 ab y h4=>?_⟩
 cbv;refine⟨q,r2,_,_,rfl,rfl,y _ _ af,h4,?_,λz J=>?_⟩
 .simp only[cT,oH,bG];exact bT (show _<=11 by lia) aG
 refine D.fin k M (zs:=((Sw66.Line.by_ Y l).length:Int)::((Sw66.Line.by_ Y l).length:Int)::(Sw66.Line.by_ Y l).map λn:Nat=>(n:Int)) ((((O.trans b).trans B).trans y).trans (au J)) ?_ ?_
 .rw[af,bG,bM,bM,W9];rfl
 unfold Sw66Neutral.out;simp
end
end
section
theorem Ve{X:Cx}{i:Nat}{y:Str}{G:PySem.Pos}{U O iter:Expr}{Y:List Expr}{scope:Scope}{own:List (Str×Nat)}{T Q:PySem.Pos}{u:TI}{g:TG}{r:TT}{p:TE}{E:L2.XK}(L:Lets X E)(n:X.stack=X.env::X.outer)(l:X.env.frame=some X.env.locals)(hc:X.calm=true)(hN:X.N.Nodup)(hy:X.N[i]?=some y)(J:X.env.scope.names.lookup y=some .local)
  (j:swapsWith (.ListComp U [⟨O,iter,Y,0⟩] scope T) (some (.Name y G)) Q.line X.env=pure true) (hi:PI X O iter u) (ok:xf X.N X.env.scope scope own)
  (hg:∀(s:Shared) (H:Hp) (C:Addr) (cl:List (Str×Addr)) (M:List Addr),PG (X.gc s H scope (compEnvC scope cl C X.env) M) O g) (ht:∀(s:Shared) (H:Hp) (C:Addr) (cl:List (Str×Addr)) (M:List Addr),LY (X.gc s H scope (compEnvC scope cl C X.env) M) Y r)
  (he:∀(s:Shared) (H:Hp) (C:Addr) (cl:List (Str×Addr)) (M:List Addr) (xe:b7),Lets (zT X s H scope (compEnvC scope cl C X.env) M xe) E->PE (zT X s H scope (compEnvC scope cl C X.env) M xe) U p) (hs:∀x,foldedSetIterable iter X.env x=pure x:=by intro _;rfl) :
  PS X (.Assign [.Name y G] (.ListComp U [⟨O,iter,Y,0⟩] scope T) Q) (Kc (vV u g r p (own.map (·.2))) (fi i)):=by
 intro pins s σ H D I h;rw[exec_Assign_Name_used _ _ _ _ j];refine aA (AS (aA ?_));show wpAny _ X.A (do let _ <-comprehension (.ListComp U [⟨O,iter,Y,0⟩] scope T) scope X.env (firstIterPos [⟨O,iter,Y,0⟩] T) (newList []) false (eval iter X.env) (some (assign (.Name y G) X.env))) _ _ s
 have h:vV u g r p (own.map (·.2)) σ H (λx H1=>fi i x σ H1 D.nx):=h;refine aA (aZ (PK (Qf:=λ_ d=>SP X pins D .next d) L n l hc hN I hi ok hg ht he hs h λB C d m H' I' q hn f=>?_) λ_ d hq=>bf (bf hq));show wpAny _ _ (assign (.Name y G) X.env (.ref B)) _ _ _;refine UU (DM (v:=V.ref B) I' hN hy (.inl J) rfl (λs2 I2 ⟨a,sb,ha⟩=>?_) (.inr J));mleft;obtain⟨f0,f1,f2,f3,f4,f5⟩:=f;mright;have c:C≠a:=by
  rcases ha with z|z
  .rw[z];exact f1
  exact λe=>f4 y a z e.symm
 refine⟨m,hn.sameBut sb c,λh3 ab=>?_⟩;exact⟨_,H',I2.turned (t':=s2.toks) (λb o hb e=>(ab.2 b hb).trans e) f0 f1 f3 f4 f5,q⟩
theorem Ws{M:Sw66.Metre}{l:Sw66.Line}(U:VM.fz M)(T:VM.eC l){x:Sw66.Scan}(Y:x∈Sw66.cheapest M l):x∈Sw66.scans M l:=by
 rcases VM.SJ U T with⟨_,e⟩|⟨a,_,e,_⟩
 .rw[e]at Y;simp at Y
 rw[e]at Y;exact(g6.mp Y).1
def Sl(K:W.Frag)(t:Ad):Sp:=λvs H Q E=>X3 λk n l=>xP K t (.scan k n l) vs H Q E
theorem aaa(T:Txt K mg t)(r:fM K t):aM P w K mg base (jB P w) 20 t.scan t.Ku ["metres","reader"] (Sl K t):=by
 refine m8 T.K3 EL (λvs H Q E h=>?_) (λaL A q s H vs Q E hr h=>?_)
 .mleft;obtain⟨k,n,l,mx,p,dx,U,Hm,H0,s,rfl,_⟩:=h;mright;rfl
 mleft;obtain⟨n,j,l,mx,p,dx,U,Hm,H0,m,rfl,D,k,g⟩:=h;mright;obtain⟨ys,hm,hz⟩:=id D.Pw;refine⟨_,ah (aH (i:=2) EL.nd rfl aI (aB (nS T r) aN ay T.nR T.jz.kp (nV T) .nil iD (aa (pv 0) (aa (b5 (pv 1) T.bj T.bA (bB T) aN (bz T) .nil aC) ai))))
  (ah (aH (i:=3) EL.nd rfl aI (b5 (pv 1) T.bj T.bA (bB T) aN (bz T) .nil aC))
  (ah (aH (i:=4) EL.nd rfl aI (aB (IQ T r) aN ay T.IJ T.qd.kp (Jd T) .nil iD (aa (aB (jZ T r) aN ay T.jS T.f6.kp (j7 T) .nil iD (aa (pv 1) ai)) (aa (pv 2) (aa (pv 3) ai)))))
  (ak (aK (bh qa (bh qa (bh qa (dt (aa (ax) ai)) (aB (eW T) aN ay T.eX T.dC.kp (eZ T) .nil aC (aa (aF T.dS T.jM (pv 4)) ai))) (aB (eW T) aN ay T.eX T.dC.kp (eZ T) .nil aC (aa (aF T.dS T.kC (pv 4)) ai))) (dt (aa (ax) (aa (aF T.dS T.oS (pv 4)) ai)))))))),?_⟩
 cbv;refine⟨_,_,D.rd.obj,rfl,gH (z:=(n:Int)) D.rd rfl λH1 s1 R1=>?_⟩;have N:=aq.dJ D.sm s1 D.fr;cbv;refine⟨mx,ys,n,rfl,N _ _ hm,λc=>?_,λmv hv=>?_⟩
 .refine(D.ref g ?_).imp λH' G=>N.trans G;unfold Sw66.step;dsimp only;rw[nz (by rw[<-hz.1];exact c)]
 obtain⟨M,f,hM⟩:=hz.get hv;have C:=hM.same ve;have Y:Sw66.step m (.scan n j l)=if Sw66.lineOk l=false then(m,Sw66.ok (-1))else(m,match (Sw66.scans M l)[j]? with|some x=>⟨0,[x.marks,x.alts,[Sw66.cost M x]]⟩|none=>Sw66.ok (-6)):=by
  unfold Sw66.step;dsimp only;rw[f];try rfl
 cbv;refine⟨_,_,R1.obj,rfl,gH (z:=(j:Int)) R1 rfl λa0 d b=>?_⟩;have O:=aq.dJ N d D.fr;cbv;refine⟨l,p,dx,U,_,[3,(n:Int),(j:Int)],[],rfl,D.ok.2.2.1,b,by rw[iN];rfl,λhf=>?_,λa lv H2 s2 R2 hL=>?_⟩
 .exact(D.ref g (by rw[Y,ag hf])).imp λH' G=>aq.dJ O G D.fr
 have L:=aq.dJ O s2 D.fr;rw[a]at Y;rw[ae aP]at Y;have LO:=VM.eC.of a;have MO:=VM.fz.of C.1;cbv;refine⟨lv,mv,l,M,j,rfl,⟨hL.same cP,a⟩,C.same L,λe=>?_,λx e v H3 s3 hS=>?_⟩
 .rw[e]at Y;exact(D.ref g Y).imp λH' G=>L.trans G
 rw[e]at Y;mleft;obtain⟨u,f2,f3,f4⟩:=VM.dM MO LO (cI e);mright;mleft;obtain⟨G,a1,nx,wx,rfl,g1,g2,g3⟩:=hS;mright;have a2:=LO.lS;have h8:=MO.p8;cbv;refine⟨aG,λq1 ab=>?_⟩;have J:=au (o:=.lst [.int 0]) ab;cbv;have zz:=J _ _ g1;cbv;refine⟨nx,_,rfl,J _ _ g2,by rw[bG,u];exact bT (show _<=25 by lia) aG,λr1 H4 a3 s4 h4=>?_⟩
 cbv;refine⟨q1,r1,_,_,rfl,rfl,s4 _ _ af,h4,?_,λz1 al=>?_⟩
 .simp only[cT,oH,bG,u];exact bT (show _<=26 by lia) aG
 have am:=au (o:=.lst (V.int 0::V.int (x.marks.length:Nat)::List.map iV x.marks)) al;have I:=J.trans (s4.trans am);cbv;have zz:=I _ _ g1;cbv;refine⟨wx,_,rfl,I _ _ g3,by rw[bG,f2];exact bT (show _<=9 by lia) aG,λr2 H5 a4 s5 h5=>?_⟩
 cbv;refine⟨z1,r2,_,_,rfl,rfl,s5 _ _ af,h5,?_,λz2 an=>?_⟩
 .simp only[cT,oH,bG,ee,u,f2];exact bT (show _<=40 by lia) aG
 have ap:=au (o:=.lst (V.int 0::V.int (x.marks.length:Nat)::(List.map iV x.marks++V.int (x.alts.length:Nat)::List.map iV x.alts))) an;have B:=I.trans (s5.trans ap);cbv;have zz:=B _ _ g1;cbv;refine⟨aG,λq3 ar=>?_⟩;have y:=au (o:=.lst [.int 1,.int (Sw66.cost M x:Nat)]) ar;refine⟨z2,q3,_,_,rfl,rfl,y _ _ af,af,?_,λz3 av=>?_⟩
 .simp only[cT,oH,bG,ee,u,f2];exact bT (show _<=50 by lia) aG
 refine D.fin k Y (zs:=Sw66Neutral.out ⟨0,[x.marks,x.alts,[Sw66.cost M x]]⟩) ((L.trans s3).trans (B.trans (y.trans (au av)))) ?_ rfl;rw[af];unfold Sw66Neutral.out;simp[N1,kr,Ab]
def Fu(K:W.Frag)(t:Ad):Sp:=λvs H Q E=>X2 λk l=>xP K t (.cheapest k l) vs H Q E
theorem Rf(T:Txt K mg t)(u:fM K t):aM P w K mg base (jB P w) 20 t.cheapest t.yq ["metres","reader"] (Fu K t):=by
 refine m8 T.xE xK (λvs H Q E h=>?_) (λap A q s H vs Q E hr h=>?_)
 .mleft;obtain⟨k,l,mx,p,dx,O,Hm,H0,s,rfl,_⟩:=h;mright;rfl
 mleft;obtain⟨n,l,mx,p,dx,O,Hm,H0,G,rfl,D,k,m⟩:=h;mright;obtain⟨ys,hm,hz⟩:=id D.Pw;refine⟨_,ah (aH (i:=2) xK.nd rfl aI (aB (nS T u) aN ay T.nR T.jz.kp (nV T) .nil iD (aa (pv 0) (aa (b5 (pv 1) T.bj T.bA (bB T) aN (bz T) .nil aC) ai))))
  (ah (aH (i:=3) xK.nd rfl aI (aB (AV T u) aN ay T.Bd T.kc.kp (AN T) .nil iD (aa (aB (jZ T u) aN ay T.jS T.f6.kp (j7 T) .nil iD (aa (pv 1) ai)) (aa (pv 2) ai))))
  (ak (aK (bh qa (bh qa (dt (aa (aF T.dS T.uH (pv 3)) (aa (ax) (aa (aF T.dS T.oS (pv 3)) ai)))) (aB (eW T) aN ay T.eX T.dC.kp (eZ T) .nil aC (aa (aF T.dS T.jM (pv 3)) ai))) (aB (eW T) aN ay T.eX T.dC.kp (eZ T) .nil aC (aa (aF T.dS T.kC (pv 3)) ai)))))),?_⟩
 cbv;refine⟨_,_,D.rd.obj,rfl,gH (z:=(n:Int)) D.rd rfl λH1 s1 R1=>?_⟩;have U:=aq.dJ D.sm s1 D.fr;cbv;refine⟨mx,ys,n,rfl,U _ _ hm,λc=>?_,λmv hv=>?_⟩
 .refine(D.ref m ?_).imp λH' I=>U.trans I;unfold Sw66.step;dsimp only;rw[nz (by rw[<-hz.1];exact c)]
 obtain⟨M,j,hM⟩:=hz.get hv;have C:=hM.same ve;have Y:Sw66.step G (.cheapest n l)=if Sw66.lineOk l=false then(G,Sw66.ok (-1))else(G,match Sw66.cheapest M l with|[]=>Sw66.ok (-6)|x::r=>⟨((x::r).length:Nat),[[Sw66.cost M x],x.marks,x.alts]⟩):=by
  unfold Sw66.step;dsimp only;rw[j];try rfl
 cbv;refine⟨l,p,dx,O,_,[4,(n:Int)],[],rfl,D.ok.2.1,R1,by rw[iN];rfl,λhf=>?_,λg lv H2 s2 R2 hL=>?_⟩
 .exact(D.ref m (by rw[Y,ag hf])).imp λH' I=>aq.dJ U I D.fr
 have N:=aq.dJ U s2 D.fr;rw[g]at Y;rw[ae aP]at Y;have f:=VM.eC.of g;have d:=VM.fz.of C.1;cbv;refine⟨lv,mv,l,M,rfl,⟨hL.same cP,g⟩,C.same N,λe=>?_,λx e v H3 s3 hS=>?_⟩
 .rw[e]at Y;exact(D.ref m Y).imp λH' I=>N.trans I
 mleft;obtain⟨b,f2,f3,f4⟩:=VM.dM d f (Ws d f (cI e));mright;have B:Sw66.step G (.cheapest n l)=(G,⟨((Sw66.cheapest M l).length:Nat),[[Sw66.cost M x],x.marks,x.alts]⟩):=by
  rw[Y];cases hc:Sw66.cheapest M l with
  |nil=>rw[hc]at e;simp at e
  |cons y r =>
   rw[hc]at e;have:y=x:=by simpa using e
   rw[this]
 clear Y;generalize (Sw66.cheapest M l).length=a at *;mleft;obtain⟨I,ar,nx,wx,rfl,g1,g2,g3⟩:=hS;mright;have av:=f.lS;have h8:=d.p8;cbv;refine⟨aG,λq1 ab=>?_⟩;have L:=au (o:=.lst [.int a,.int 1,.int (Sw66.cost M x:Nat)]) ab;cbv;have zz:=L _ _ g1;cbv;refine⟨nx,_,rfl,L _ _ g2,by rw[bG,b];exact bT (show _<=25 by lia) aG,λr1 H4 aL s4 h4=>?_⟩
 cbv;refine⟨q1,r1,_,_,rfl,rfl,s4 _ _ af,h4,?_,λz1 al=>?_⟩
 .simp only[cT,oH,bG,b];exact bT (show _<=28 by lia) aG
 have am:=au (o:=.lst (V.int a::V.int 1::V.int (Sw66.cost M x:Nat)::V.int (x.marks.length:Nat)::List.map iV x.marks)) al;have J:=L.trans (s4.trans am);cbv;have zz:=J _ _ g1;cbv;refine⟨wx,_,rfl,J _ _ g3,by rw[bG,f2];exact bT (show _<=9 by lia) aG,λr2 H5 a0 s5 h5=>?_⟩
 cbv;refine⟨z1,r2,_,_,rfl,rfl,s5 _ _ af,h5,?_,λz2 an=>?_⟩
 .simp only[cT,oH,bG,ee,b,f2];exact bT (show _<=40 by lia) aG
 refine D.fin k B (zs:=Sw66Neutral.out ⟨(a:Nat),[[Sw66.cost M x],x.marks,x.alts]⟩) ((N.trans s3).trans (J.trans (s5.trans (au an)))) ?_ rfl;rw[af];unfold Sw66Neutral.out;simp[N1,kr,Ab]
def QI(K:W.Frag)(t:Ad):Sp:=λvs H Q E=>∃Y,xP K t (.forms Y) vs H Q E
theorem XQ{s:List Sw66.Metre}{Y:List Sw66.Line}{f:List Nat}(h:Sw66.period s Y=some f):f.length<=Y.length:=by
 rw[VM.Lv]at h;obtain⟨n,U,e⟩:=List.exists_of_findSome?_eq_some h;obtain⟨m,T,rfl⟩:=bS.mp U;have:=Et.mp T;split at e
 .cases e
 unfold VM.formOf at e;split at e
 .cases e
 rw[<-cp e];refine bT (Zw _ _) ?_;rw[Ec];lia
theorem Xk(T:Txt K mg t)(N:fM K t):aM P w K mg base (jB P w) 14 t.forms t.G8 ["metres","reader"] (QI K t):=by
 refine m8 T.Gz Hh (λvs H Q E h=>?_) (λab A C s H vs Q E hr h=>?_)
 .mleft;obtain⟨Y,j,p,g,M,Hm,H0,s,rfl,_⟩:=h;mright;rfl
 mleft;obtain⟨Y,j,p,g,M,Hm,H0,G,rfl,D,k,B⟩:=h;mright;refine⟨_,ah (aH (i:=2) Hh.nd rfl aI (aB (B4 T N) aN ay T.B7 T.n6.kp (Cc T) .nil iD (aa (pv 1) ai)))
  (ah (bZ (yU (fS (pv 2) (λ_=>rfl))) (ak (jx rfl fU N.Ii N.in1 N.Zr (jG T N) aN ay T.pz (jD T))) bp)
  (ah (aH (i:=3) Hh.nd rfl aI (aB (GK T N) aN ay T.Gp T.oQ.kp (GU T) .nil iD (aa (pv 2) (aa (pv 0) ai))))
  (ak (aK (bh qa (dt (aa (bH (mq K) ay T.dk PySem.boot_len (aa (pv 3) ai)) ai)) (aB (eW T) aN ay T.eX T.dC.kp (eZ T) .nil aC (aa (pv 3) ai))))))),?_⟩
 cbv;refine⟨Y,p,g,M,_,[8],[],rfl,D.ok.1,λl hl=>(D.ok.2 l hl).1,D.rd,by rw[iN];rfl,λhf=>?_,λy lv H2 s2 hL=>?_⟩
 .refine(D.ref B ?_).imp λd J=>aq.dJ D.sm J D.fr;unfold Sw66.step;dsimp only;rw[ag];rw[show(decide (Y.length<=Sw66.LINES)&&Y.all Sw66.lineOk)=false from hf,Ni]
 have U:=aq.dJ D.sm s2 D.fr;have I:=aV.same lp.mn cP hL;mleft;obtain⟨lx,L,rfl,v,u⟩:=id I;mright;have n:Y.length<=20:=by
  rw[gN,dI]at y;exact y.1
 cbv;refine⟨_,.inl ⟨_,.of v,rfl⟩,?_⟩;by_cases c:Y.length=0
 .have:L=[]:=UL (by rw[u.1];exact c)
  rw[this];rw[ag ay];cbv;refine gP ⟨N.Ii,N.VT⟩ ((D.ref B ?_).imp λd J=>U.trans J);unfold Sw66.step;dsimp only;rw[ag];rw[c];rfl
 have:L≠[]:=λe=>by rw[e]at u;have:=u.1;simp at this;lia
 rw[ae (by cases L with|nil=>exact absurd rfl this|cons a b=>simp)]
 cbv;have O:Sw66.step G (.forms Y)=(G,match Sw66.period G Y with|some f=>⟨(f.length:Nat),[f]⟩|none=>Sw66.ok (-6)):=by
  unfold Sw66.step;dsimp only;rw[ae (by rw[show(decide (Y.length<=Sw66.LINES)&&Y.all Sw66.lineOk)=true from y,Bool.and_true,T5];lia)]
  cbv;try rfl
 refine⟨.ref lx,.ref j,Y,G,rfl,I,(D.Pw.same U).list,ao,n,D.s8,λe=>?_,λf e r H3 al s3 h3=>?_⟩
 .rw[e]at O;exact(D.ref B O).imp λd J=>U.trans J
 rw[e]at O;have am:=XQ e;cbv;refine⟨_,.inl (.of h3),aG,λq hq=>?_⟩;have sq:=au (o:=.lst [.int (f.map iV).length]) hq;refine⟨r,_,rfl,sq _ _ h3,by rw[bG];exact bT (show _<=21 by lia) aG,λr2 H4 an s4 h4=>?_⟩
 cbv;refine⟨q,r2,_,_,rfl,rfl,s4 _ _ af,h4,?_,λz m=>?_⟩
 .simp only[cT,oH,bG];exact bT (show _<=30 by lia) aG
 refine D.fin k O (zs:=Sw66Neutral.out ⟨(f.length:Nat),[f]⟩) ((((U.trans s3).trans sq).trans s4).trans (au m)) ?_ rfl;rw[af];unfold Sw66Neutral.out;simp[N1,kr,Ab]
def RE(K:W.Frag)(t:Ad):Sp:=λvs H Q E=>X2 λf Y=>xP K t (.poem f Y) vs H Q E
def QA:Sw66.Metre:=⟨[],[]⟩
theorem QX{s:List Sw66.Metre}{f:List Nat}{ls:List Sw66.Line}(U:f≠[])(h:∀k∈f,k<s.length):mh (f.map λk=>s.getD k QA) ls=Sw66.poemOf s f ls:=by
 unfold mh Sw66.poemOf;refine kZ λx _=>?_;have T:0<f.length:=YH.mpr U;have Y:x.2 % f.length<f.length:=Nat.mod_lt _ T;rw[bG];have Q:(f.map λk=>s.getD k QA).getD (x.2 % f.length) ⟨[],[]⟩=s.getD (f.getD (x.2 % f.length) 0) QA:=by
  rw[dU,cM,dU (l:=f),cu Y];rfl
 have O:f.getD (x.2 % f.length) 0<s.length:=by
  rw[dU,cu Y];exact h _ (xJ Y)
 rw[Q,dU,cu O];rfl
theorem WI(f:List Nat):f.flatMap VM.Xj=f.map nI:=by
 induction f with
 |nil=>rfl
 |cons a f Y=>rw[kb,Y];rfl
theorem aaA(T:Txt K mg t)(u:fM K t):aM P w K mg base (jB P w) 12 t.poem t.Kd ["metres","reader"] (RE K t):=by
 refine m8 T.K0 vd (λvs H Q E h=>?_) (λbm A a2 s H vs Q E hr h=>?_)
 .mleft;obtain⟨f,Y,mx,p,dx,I,Hm,H0,s,rfl,_⟩:=h;mright;rfl
 mleft;obtain⟨f,Y,mx,p,dx,I,Hm,H0,O,rfl,D,k,kE⟩:=h;mright;obtain⟨ys,hm,hz⟩:=id D.Pw;have an:VM.EC (.poem f Y)=[7]++(((f.map nI).length:Int)::(f.map nI++VM.eList VM.jH Y)):=by
  show 7::(VM.eList VM.Xj f++VM.eList VM.jH Y)=_;unfold VM.eList;rw[WI,bG];rfl
 have a3:=D.ok.1;have ap:=D.ok.2;have bn:=a3.1;refine⟨_,ah (Ve (i:=2) fU rfl rfl rfl vd.nd rfl rfl (kU rfl rfl rfl rfl) (dc (b5 (pv 1) T.bj T.l6 (l8 T) aN (lT T) .nil aC)) (b6 (own:=[("number",6)]) ay) (λ_ _ _ _ _=>(aE (i:=6) vd.nd rfl aI)) (λ_ _ _ _ _=>cW) (λ_ _ _ _ _ _ L=>(aB (nS T u) aN ay T.nR T.jz.kp (nV T) .nil L.passes (aa (pv 0) (aa (pv 6) ai)))))
  (ah (bZ (yU (fS (pv 2) (λ_=>rfl))) (ak (jx rfl fU u.Yz u.in2 u.fn2 (qQ T u) aN ay T.zr (qO T))) bp)
  (ah (aH (i:=3) vd.nd rfl aI (aB (B4 T u) aN ay T.B7 T.n6.kp (Cc T) .nil iD (aa (pv 1) ai)))
  (ah (aH (i:=4) vd.nd rfl aI (aB (DW T) aN ay T.D0 T.mC.kp (D9 T) .nil aC (aa (pv 2) (aa (pv 3) ai))))
  (ah (aH (i:=5) vd.nd rfl aI (N9 (eM fq (bh OB (bH (mq K) ay T.dk PySem.boot_len (aa (pv 3) ai)) (bH (mq K) ay T.dk PySem.boot_len (aa (pv 2) ai))) (ax) (aR _)) (Ip (eM (abS K) (ax) (pv 4) ay))))
  (ak (aK (bh qa (dt (aa (lY (fS (pv 5) (λ_=>rfl)) (ax) (ax)) ai)) (aB (eW T) aN ay T.eX T.dC.kp (eZ T) .nil aC (aa (pv 4) ai))))))))),?_⟩
 cbv;refine acW (λq H1=>H1 q=some (.lst ((f.map nI).map V.int))/\aq p H H1/\dv K t H1 p dx I (VM.EC (.poem f Y)) ([7].length+(1+(f.map nI).length))) (λR q=>?_) (λq H1 hP=>?_)
 .cbv;exact⟨_,_,D.rd.obj,rfl,OL (pre:=[7]) D.rd an λa g _ h2 h3 h4=>q a g ⟨h2,h3,h4⟩⟩
 obtain⟨a4,a5,R1⟩:=hP;have d:=aq.dJ D.sm a5 D.fr;have J:(∃k∈f,O.length<=k)->Sw66.step O (.poem f Y)=(O,Sw66.ok (-2)):=λ⟨k,a6,a7⟩=>by
  unfold Sw66.step;dsimp only;rw[ag];rw[CA];right;rw[xC];exact⟨k,a6,by simpa using a7⟩
 refine BV (a:=q) (H1:=H1) (λR z=>z) (.of a4) (λi zs _=>Zp (cS t H0) zs ((f.take i).map λk=>O.getD k QA)/\∀k∈f.take i,k<O.length) ⟨Zp.nil,λk hk=>by simp at hk⟩ (λB i y g hB hy pr=>?_) (λB g hB pr=>?_)
 .mleft;obtain⟨s2,zs,U,z1,z2⟩:=pr;mright;rw[cM,cM]at hy;obtain⟨w,hw,rfl⟩:=lM.mp hy;obtain⟨n,hn,rfl⟩:=lM.mp hw;have br:=(dE.mp hn).1;cbv;refine⟨mx,ys,n,rfl,s2 _ _ (d _ _ hm),λc=>?_,λv hv=>?_⟩
  .exact(D.ref kE (J ⟨n,cI hn,by rw[<-hz.1];exact c⟩)).imp λg sx=>(d.trans s2).trans sx
  obtain⟨M,ar,hM⟩:=hz.get hv;have a8:n<O.length:=(dE.mp ar).1;refine dW.next hB s2 U ?_ ⟨?_,?_⟩
  .rw[z1.1,bG,iA];exact d8 (F8 _ _) (eE (show i<61 by lia) aG)
  .rw[bo hn,jK];refine z1.snoc ?_;show cS t H0 v (O.getD n QA);rw[dU,ar];exact hM.same ve
  exact iR hn z2 a8
 mleft;obtain⟨s2,zs,U,z1,z2⟩:=pr;mright;rw[show((f.map nI).map V.int).length=f.length by simp,eG]at z1 z2
 have C:=d.trans s2;have hF:aV (cS t) g (.ref B) (f.map λk=>O.getD k QA):=⟨B,zs,rfl,U,z1.imp λy a q=>q.same C⟩;cbv;refine⟨_,.inl ⟨_,.of U,rfl⟩,?_⟩;have zl:zs.length=f.length:=by rw[z1.1,bG]
 by_cases c0:f=[]
 .have:zs=[]:=UL (by rw[zl,c0];rfl)
  rw[this];rw[ag ay];cbv;refine gP ⟨u.Yz,u.em2⟩ ((D.ref kE ?_).imp λg sx=>C.trans sx);unfold Sw66.step;dsimp only;rw[ag];rw[c0];rfl
 have a9:0<f.length:=YH.mpr c0;have:zs≠[]:=λe=>by rw[e]at zl;simp at zl;lia
 rw[ae (by cases zs with|nil=>exact absurd rfl this|cons a b=>simp)]
 cbv;have o:¬(f.isEmpty||f.any λk=>decide (O.length<=k))=true:=by
  rw[CA,xC];rintro(q|⟨k,hk,q⟩)
  .exact c0 (by simpa using q)
  have:=z2 k hk;simp at q;lia
 have R2:=R1.same s2;refine⟨Y,p,dx,I,_,[7]++(((f.map nI).length:Int)::f.map nI),[],rfl,ap.1,λl hl=>(ap.2 l hl).1,R2.cast (by simp;lia),by rw[iN,an,rD];rfl,λhf=>?_,λht lv H3 s3 hL=>?_⟩
 .refine(D.ref kE ?_).imp λg sx=>aq.dJ C sx D.fr;unfold Sw66.step;dsimp only;rw[ae o,ag (show(decide (Y.length<=Sw66.LINES)&&Y.all Sw66.lineOk)=false from hf)]
 have av:=aq.dJ C s3 D.fr;have aL:=aV.same lp.mn cP hL;mleft;obtain⟨lx,bt,rfl,ba,bb⟩:=id aL;mright;have bc:Y.length<=20:=by
  rw[gN,dI]at ht;exact ht.1
 have a0:B≠p:=λe=>by rw[e,(R1.same s2).obj]at U;cases U
 have bd:aV (cS t) H3 (.ref B) (f.map λk=>O.getD k QA):=⟨B,zs,rfl,s3 _ _ a0 U,z1.imp λy a q=>q.same av⟩;have be:Sw66.step O (.poem f Y)=(O,⟨if ((Sw66.poemOf O f Y).all λn=>n != 0)&&decide (Y.length % f.length=0)then 1 else 0,[Sw66.poemOf O f Y]⟩):=by
  unfold Sw66.step;dsimp only;rw[ae o,ae (by rw[show(decide (Y.length<=Sw66.LINES)&&Y.all Sw66.lineOk)=true from ht];simp)]
 cbv;refine⟨.ref B,.ref lx,_,Y,rfl,bd,by rw[bG];exact a9,aL,bc,λr H4 bv s4 h4=>?_⟩
 rw[QX c0 z2]at h4;have a1:(Sw66.poemOf O f Y).length=Y.length:=by unfold Sw66.poemOf;simp
 generalize Sw66.poemOf O f Y=N at *;cbv;refine⟨_,.inl (.of (s4 _ _ ba)),_,.inl (.of (s4 _ _ (s3 _ _ a0 U))),?_⟩;rw[bb.1,zl,<-Uu];refine⟨ao,?_⟩;cbv;have bi:Fw (.int 0) (N.map iV)=N.contains 0:=RF 0 N;have m:(N.all λn=>n != 0)=!N.contains 0:=by
  rw[lU,jV,YT,<-Kn,SR];exact⟨λh hc=>by simpa using h 0 hc,λh n hn=>by simp;intro e;exact h (e▸hn)⟩
 have go:∀j:Bool,j=(((N.all λn=>n != 0)&&decide (Y.length % f.length=0)))->∀G:Int,G=(if j=true then 1 else 0)->∀q,H4 q=none->∀r1 H5,aw (upd H4 q (.lst [.int G])) H5->H5 r1=some (.lst (.int (N.map iV).length::N.map iV))->∀z,H5 z=none->Q (.ref z) (upd H5 z (.lst ([.int G]++V.int (N.map iV).length::N.map iV))):=λj ab G al q hq r1 H5 s5 h5 z am=>by
  refine D.fin k be (zs:=Sw66Neutral.out ⟨G,[N]⟩) ((av.trans s4).trans (((au hq).trans s5).trans (au am))) ?_ (by rw[al,ab])
  rw[af];unfold Sw66Neutral.out;simp[N1,kr,Ab]
 have fin2:∀j:Bool,j=(((N.all λn=>n != 0)&&decide (Y.length % f.length=0)))->∀G:Int,G=(if j=true then 1 else 0)->1<=sizeLine/\∀p,H4 p=none->yY K [V.ref r] (upd H4 p (.lst [.int G])) (λy H2=>abG (V.ref p) y H2 Q) E0:=λj ab G al=>⟨aG,λp hp=>⟨r,_,rfl,au hp _ _ h4,by rw[bG,a1];exact bT (show _<=21 by lia) aG,λr1 H5 bx s5 h5=>⟨p,r1,_,_,rfl,rfl,s5 _ _ af,h5,by simp only[cT,oH,bG,a1];exact bT (show _<=30 by lia) aG,λz am=>go j ab G al p hp r1 H5 s5 h5 z am⟩⟩⟩
 by_cases cm:Y.length % f.length=0
 .rw[ag ao];cbv;refine⟨r,_,rfl,.inl (.of h4),rfl,SG N,?_⟩;cbv;show ∃k,Yh K (.bl (!Fw (.int 0) (N.map iV))) H4 k/\_;rw[bi];refine⟨_,rfl,?_⟩;cases hc:N.contains 0 with
  |true =>
   rw[ae aP];exact fin2 false (by rw[m,hc];rfl) 0 rfl
  |false =>
   rw[ag aP];exact fin2 true (by rw[m,hc,wQ cm];rfl) 1 rfl
 rw[ae ao];cbv;refine⟨_,rfl,?_⟩;rw[ae aP];exact fin2 false (by rw[jF cm,Ni]) 0 rfl
end
section
def Tg(K:W.Frag)(t:Ad):List Sp:=[Mf K t,Qx K t,Ou K t,Sl K t,Fu K t,Od K t,Qm K t,RE K t,QI K t]
def Sy(K:W.Frag)(t:Ad)(f:Addr):Sp:=λvs H Q E=>X2 λ(i:Nat) (s:Sp)=>Y3 ((ij t)[i]?=some f) ((Tg K t)[i]?=some s) (s vs H Q E)
theorem aci{l:List Addr}(Y:l.Nodup){i j:Nat}{a:Addr}(U:l[i]?=some a)(T:l[j]?=some a):i=j:=by
 obtain⟨N,Q⟩:=dE.mp U;obtain⟨M,O⟩:=dE.mp T;exact(UY Y).mp (Q.trans O.symm)
theorem call_of(TC:(ij t).Nodup){f:Addr}{Y:FuncData}{sp:Sp}{i j k:Nat}(h:aM P w K mg base (jB P w) j f Y ["metres","reader"] sp)(T:(ij t)[i]?=some f)(O:(Tg K t)[i]?=some sp)(N:j<=k):aM P w K mg base (jB P w) k f Y ["metres","reader"] (Sy K t f):=
 (aM.mono h N).imp λvs H Q E q=>by
  mleft;obtain⟨J,I,M,U,L⟩:=q;mright;have e:=aci TC M T;subst e;rw[O]at U;rw[cp U];exact L
theorem Xn(T:Txt K mg t)(Y:fM K t)(TC:(ij t).Nodup):∀f,f∈ij t->∃Q,aM P w K mg base (jB P w) 20 f Q ["metres","reader"] (Sy K t f)/\W.keepIn K (.ref f)=true/\Binds K Q ["metres","reader"] []:=by
 intro f U;unfold ij at U;simp only[b0,List.not_mem_nil,or_false]at U;rcases U with rfl|rfl|rfl|rfl|rfl|rfl|rfl|rfl|rfl
 .exact⟨_,call_of TC (i:=0) (WV T Y) rfl rfl aG,T.Eg.kp,WO T⟩
 .exact⟨_,call_of TC (i:=1) (W7 T Y) rfl rfl aG,T.F6.kp,W2 T⟩
 .exact⟨_,call_of TC (i:=2) (Xe T Y) rfl rfl aG,T.GH.kp,Xo T⟩
 .exact⟨_,call_of TC (i:=3) (aaa T Y) rfl rfl aG,T.K3.kp,aab T⟩
 .exact⟨_,call_of TC (i:=4) (Rf T Y) rfl rfl aG,T.xE.kp,Ry T⟩
 .exact⟨_,call_of TC (i:=5) (Yl T Y) rfl rfl aG,T.GI.kp,Xm T⟩
 .exact⟨_,call_of TC (i:=6) (Yv T Y) rfl rfl aG,T.GQ.kp,XI T⟩
 .exact⟨_,call_of TC (i:=7) (aaA T Y) rfl rfl aG,T.K0.kp,aaB T⟩
 exact⟨_,call_of TC (i:=8) (Xk T Y) rfl rfl aG,T.Gz.kp,Xu T⟩
def IB:Sw66.Call->Nat
 |.begins=>0
 |.metre _=>1
 |.scans _ _=>2
 |.scan _ _ _=>3
 |.cheapest _ _=>4
 |.which _=>5
 |.mends _ _=>6
 |.poem _ _=>7
 |.forms _=>8
theorem Tz(x:Sw66.Call):(VM.EC x)[0]?=some ((IB x:Nat):Int):=by cases x<;>rfl
theorem abi(x:Sw66.Call):IB x<9:=by cases x<;>simp[IB]
theorem aaC{x:Sw66.Call}{vs:List V}{H:Hp}{Q:VK}{E:L2.XK}(h:xP K t x vs H Q E):∃s,(Tg K t)[IB x]?=some s/\s vs H Q E:=by
 cases x with
 |begins=>exact⟨_,rfl,h⟩
 |metre M=>exact⟨_,rfl,M,h⟩
 |scans k l=>exact⟨_,rfl,k,l,h⟩
 |scan k n l=>exact⟨_,rfl,k,n,l,h⟩
 |cheapest k l=>exact⟨_,rfl,k,l,h⟩
 |which l=>exact⟨_,rfl,l,h⟩
 |mends k l=>exact⟨_,rfl,k,l,h⟩
 |poem f Y=>exact⟨_,rfl,f,Y,h⟩
 |forms Y=>exact⟨_,rfl,Y,h⟩
def PF(K:W.Frag)(t:Ad):Sp:=λvs H Q _=>X8 λ(x:Sw66.Call) (T p N Y:Addr) (O U:Hp) (s:List Sw66.Metre)=>Y9 (vs=[.ref T,.ref p]) (aw O U) (aw U H) (U p=none) (jq t O T s) (s.length<=8) (dv K t H p N Y (VM.EC x) 0) (VM.Oq x) (Na t x s T O U Q)
theorem Pd(T:Txt K mg t)(f:fM K t)(TC:(ij t).Nodup):aM P w K mg base bX 22 t.Cy t.vh ["metres","reader"] (PF K t):=by
 refine T.vi.ok wH (λvs H Q E h=>?_) (λd A O s H vs Q E hr h=>?_)
 .mleft;obtain⟨x,N,p,r,Y,M,J,s,rfl,_⟩:=h;mright;rfl
 mleft;obtain⟨x,N,p,r,Y,M,J,I,rfl,sub,a,fr,m,s8,R,G,k⟩:=h;mright;obtain⟨c,D,B⟩:=T.XB;refine⟨_,ah (aH (i:=2) wH.nd rfl aI (aS (bW K) (cH (v:=.ref c) ay ⟨_,D,rfl⟩) (b5 (pv 1) T.bj T.bA (bB T) aN (bz T) .nil aC) (λ_ _=>rfl)))
  (ak (Yd (j:=3) wH.nd rfl rfl rfl rfl ay T.qG (λE pn ab L=>ak (aK (W5 (Xn T f TC) aN L.passes (pv 2) (aa (pv 0) (aa (pv 1) ai))))))),?_⟩
 cbv;refine⟨_,_,R.obj,rfl,gH R (Tz x) λH1 s1 R1=>?_⟩;have al:=abi x;have am:(ij t).length=9:=rfl;have U:(ij t)[IB x]?=some (ij t)[IB x]:=cu ao;refine⟨_,.ref (ij t)[IB x],B H1,?_,?_⟩
 .refine bE ?_;show((ij t).map V.ref)[IB x]?=_;rw[cM,U];rfl
 cbv;refine⟨xJ _,?_⟩;have hE:∀n,Sw66.step I x=(I,Sw66.ok n)->Refs K t (EH K t.Refusal "number" Q) n (aw J):=λn e C z H2 y hd l=>by
  refine⟨C,z,_,_,rfl,rfl,y.xk,y.em,y.xk.no,hd,rfl,λq hq=>?_⟩;have g:=au (o:=.lst [.int n]) hq;exact k q [n] _ M (.of (l.trans g)) (sub.trans (l.trans g)) (λb _ h=>h) (by rw[e];exact m) af (by rw[e];rfl)
 obtain⟨sd,u,hd⟩:=aaC (x:=x) (vs:=[.ref N,.ref p]) (H:=H1) (Q:=Q) (E:=EH K t.Refusal "number" Q) ⟨N,p,r,Y,M,J,I,rfl,⟨sub,aq.dJ a s1 fr,fr,m,s8,R1,G⟩,k,hE⟩;exact⟨IB x,sd,U,u,hd⟩
theorem FW{H:Hp}{Q:Addr->Hp->Prop}{E:L2.XK}{a:Addr}(k:∀x Y U,H x=none->aw H U->U x=some (.ins t.Reader Y (w6 a 0))->Q x U):∀x Y,H x=none->H Y=none->Y≠x->y8 K t [V.ref x,.ref a] (upd (upd H Y (.own x)) x (.ins t.Reader Y [])) (λv O=>v=.aX/\Q x O) E:=λx Y T hd n=>⟨x,Y,a,rfl,af,rfl,k x Y _ T (oG T hd n) af⟩
theorem Vi(a:List Int)(l:List (List Int)):PyFlat.told (a::l)=(a.length:Int)::(a++PyFlat.told l):=by
 unfold PyFlat.told;rw[kb];rfl
theorem TU(T:Txt K mg t)(TX:fM K t)(TC:(ij t).Nodup):aM P w K mg base bX 24 t.answers t.qA ["calls"] (EM K):=by
 refine T.HZ.ok p7 (λvs H Q E h=>?_) (λb2 A a7 s H vs Q E hr h=>?_)
 .mleft;obtain⟨a,j,rfl,_⟩:=h;mright;rfl
 mleft;obtain⟨a,j,rfl,hS,d,k⟩:=h;mright;mleft;obtain⟨rs,ab,b3,a8,L,al⟩:=VM.Ui d;mright;refine⟨_,ah (aH (i:=1) p7.nd rfl aI (dt ai))
  (ah (aH (i:=2) p7.nd rfl aI (dt ai))
  (ah (aH (i:=3) p7.nd rfl aI (d7 T.LM (zu T) aN ay T.K8 (zN T) .nil aC (aa (pv 0) ai)))
  (ah (G6 cO (tu (b5 (pv 3) T.bj T.CC (Dl T) aN (Di T) .nil aC)) (ah (b8 (b5 (pv 3) T.bj T.bA (bB T) aN (bz T) .nil aC))
  (ah (aH (i:=4) p7.nd rfl aI (aB (Pd T TX TC) aN ay T.Qn T.vi.kp (P9 T) .nil aC (aa (pv 1) (aa (d7 T.LM (zu T) aN ay T.K8 (zN T) .nil aC (aa (b5 (pv 3) T.bj T.l6 (l8 T) aN (lT T) .nil aC) ai)) ai))))
  (ak (b8 (lI jC PySem.F.slot_list_extend PySem.F.type_list_extend VI (pv 2) (aa (aB (eW T) aN ay T.eX T.dC.kp (eZ T) .nil aC (aa (pv 4) ai)) ai)))))))
  (ak (aK (pv 2)))))),?_⟩
 cbv;refine⟨aG,λmx am=>?_⟩;cbv;refine⟨aG,λtx O=>?_⟩;have s0:=au (o:=.lst []) am;have s1:=s0.trans (au (o:=.lst []) O);have an:mx≠tx:=λe=>by rw[<-e,af]at O;cases O
 cbv;refine FW λrp ap H1 a9 J I=>?_;cbv;have ar:=s1.trans J;have G:H1 mx=some (.lst []):=J _ _ (au O _ _ af);have D:H1 tx=some (.lst []):=J _ _ af;have ba:H tx=none:=s0.free O;have av:H rp=none:=s1.free a9;have aL:mx≠rp:=λe=>by rw[e,I]at G;cases G
 have C:tx≠rp:=λe=>by rw[e,I]at D;cases D
 obtain⟨W,hW⟩:∃W:Nat->L2.St->Hp->Prop,W=λf σ g=>X6 λ(v4:Option V) (done rem:List (List Int)) (U:List Sw66.Metre) (B:List Int) (y:Hp)=>Y13 (σ=[some (.ref a),some (.ref mx),some (.ref tx),some (.ref rp),v4]) (aw H g) (rs=done++rem) (f=rem.length) (dv K t g rp ap a j (done.flatMap VM.rh).length) (g tx=some (.lst (B.map V.int))) (aw y g) (y tx=none) (y rp=none) (jq t y mx U) (U.length<=8) (B++PyFlat.told (VM.zW U rem)=PySw66.answers j) (B.length+Sw66Neutral.many U rem+rem.length<=1000060):=⟨_,rfl⟩;have bb:W rs.length [some (.ref a),some (.ref mx),some (.ref tx),some (.ref rp),none] H1:=by
  rw[hW];refine⟨none,[],rs,[],[],λb=>if b=mx then some (.lst [])else none,rfl,ar,rfl,rfl,⟨I,ar.seq hS⟩,D,λb o q=>?_,ae (bq an),ae (bq aL),⟨[],ag rfl,Zp.nil⟩,dy _,by rw[vn];exact al.symm,?_⟩
  .dsimp only at q;split at q
   .rename_i e;rw[e,G];exact q
   cases q
  have:Sw66Neutral.many [] rs<=1000000:=L;simp only[oH];lia
 refine⟨W,⟨rs.length,bb⟩,λf σ g hw=>?_⟩;rw[hW]at hw;mleft;obtain⟨v4,done,rem,U,B,y,rfl,sm,M,hf,R,ht,a0,bc,v,ms,s8,eB,Y⟩:=hw;mright;cbv;refine⟨_,_,R.obj,rfl,rp,ap,a,j,_,rfl,R,?_⟩;cbv;have a1:j.length=(done.flatMap VM.rh).length+(rem.flatMap VM.rh).length:=by rw[ab,M,CG,ee]
 cases rem with
 |nil =>
  rw[ae (by rw[a1];simp)]
  cbv;refine k tx g ?_;rw[ht,<-eB];simp[VM.zW,PyFlat.told]
 |cons c rem =>
  have a2:(List.flatMap VM.rh (c::rem))=0::(c.length:Int)::(c++rem.flatMap VM.rh):=by rw[kb];rfl
  rw[ag (by rw[a1,a2];simp;lia)]
  cbv;obtain⟨x,hx⟩:=a8 c (by rw[M];simp)
  obtain⟨ec,bd⟩:=VM.WN hx;have a3:j=done.flatMap VM.rh++(0::((c.length:Int)::(c++rem.flatMap VM.rh))):=by rw[ab,M,CG,a2]
  refine⟨λbe bi=>∃m',m'<f/\W m' be bi,λ_ _ q=>q,?_⟩;cbv;refine⟨_,_,R.obj,rfl,gH R (z:=0) (by rw[a3];exact zA _ _ _) λH2 J R2=>?_⟩
  cbv;refine⟨_,_,R2.obj,rfl,OL (pre:=done.flatMap VM.rh++[0]) (c:=c) (post:=rem.flatMap VM.rh) (by simpa using R2) (by rw[a3];simp) λq H3 hq h3 s3 R3=>?_⟩
  cbv;refine FW λp bl H4 hp s4 bm=>?_;cbv;have bn:aw H H3:=aq.dJ (aq.dJ sm J av) s3 av;have u:aw y H3:=aq.dJ (aq.dJ a0 J v) s3 v;have a4:H3 tx=some (.lst (B.map V.int)):=s3 _ _ C (J _ _ C ht);refine⟨x,mx,p,bl,q,y,H3,U,rfl,u,s4,hp,ms,s8,⟨bm,?_⟩,bd,λq' zs H5 Hn n sn hn br h5 ez=>?_⟩
  .rw[<-ec];exact .of (s4 _ _ h3)
  have bt:tx≠mx:=bq an;have a5:=n _ _ bt a4;have m:=VM.ab6 (s:=U) hx;have b4:zs.length=(Sw66Neutral.step U c).2.length:=by rw[ez,m]
  have bv:Sw66Neutral.many U (c::rem)=(Sw66Neutral.step U c).2.length+Sw66Neutral.many (Sw66Neutral.step U c).1 rem:=rfl;rw[bv]at Y;simp only[cT]at Y;cbv;refine⟨sN a5,?_⟩;refine⟨q',_,rfl,h5,by rw[bG];exact bT (show _<=1000061 by lia) aG,λr H6 ca s6 h6=>?_⟩
  refine⟨tx,r,_,_,rfl,rfl,s6 _ _ a5,h6,?_,?_⟩
  .simp only[cT,bG];exact bT (show _<=1000061 by lia) aG
  have a6:aq tx H6 (upd H6 tx (.lst (B.map V.int++V.int (zs.map V.int).length::zs.map V.int))):=aq.upd;have N:Hn tx=none:=hn tx (by rw[a4];simp) bc
  have l:Hn rp=none:=hn rp (by rw[R3.obj];simp) v
  have bx:rp≠mx:=bq aL;have b1:aw H H5:=aq.dJ bn n am;have sF:aw H (upd H6 tx (.lst (B.map V.int++V.int (zs.map V.int).length::zs.map V.int))):=aq.dJ (b1.trans s6) a6 ba;refine⟨rem.length,by rw[hf];simp,?_⟩
  rw[hW];refine⟨_,done++[c],rem,(Sw66.step U x).1,B++((zs.length:Int)::zs),Hn,rfl,sF,by rw[M];simp,rfl,⟨?_,sF.seq hS⟩,?_,aq.dJ (sn.trans s6) a6 N,N,l,br,VM.WW s8 x,?_,?_⟩
  .rw[aj (bq C)];rw[s6 _ _ (n _ _ bx R3.obj)];congr 3;rw[CG,ee,ee];simp[VM.rh];lia
  .rw[af,jK,bM,bG]
  .rw[<-eB];show _=B++PyFlat.told ((Sw66Neutral.step U c).2::VM.zW (Sw66Neutral.step U c).1 rem);rw[Vi,m,<-ez,rD];rfl
  rw[m]at Y;rw[ee,cT];dsimp only at Y;rw[<-ez]at Y;lia
end
section
variable{mg:Str->Option Value}
theorem NU{K:W.Frag}{C:Addr}{U q:Str}{N:Addr}{bs bm:List Value}{T:List Str}{sub:List Value}{Q:Bool}{Y:Option Bool}{O:Option Addr}{M L J I H:Option Value}(l:K.lookup C=some (excClassObj U q C N bs bm true T sub Q Y O M L J I H "Exception.__new__"))(z:pb bm=true)(G:bm.contains (.type "Exception")=true)(E:bm.contains (.type "BaseException")=true)(D:bm.contains (.type "AttributeError")=false)(B:bm.contains (.type "NameError")=false):∃A bm,pb bm=true/\∀h:Heap,K.In h->XC h C A bm:=
 ⟨_,bm,z,λh X=>⟨X _ _ l,⟨U,q,N,bs,T,sub,Q,Y,O,M,L,J,I,H,rfl⟩,G,E,D,B⟩⟩
theorem cN{K:W.Frag}{C:Addr}{f:Str}(h:W.findIn K (.ref C) f=some none):bC K C f:=h
theorem Xr{K:W.Frag}{Y:Heap}{z a b c d e f g h i:Addr}{T:Option Addr}{n:Nat}{Q:Array (Option Value)}(X:K.In Y)(G:Y.Ns mainGlobals mg)(q:W.nsIn K mainGlobals "CALLS"=some (some (.ref z)))
  (l:K.lookup z=some ⟨.type "tuple",T,.seq #[.ref a,.ref b,.ref c,.ref d,.ref e,.ref f,.ref g,.ref h,.ref i] n,Q⟩):∃U:Addr,mg "CALLS"=some (.ref U)/\∀H:Hp,uN K H U [.ref a,.ref b,.ref c,.ref d,.ref e,.ref f,.ref g,.ref h,.ref i]:=
 ⟨z,W.mg_of X G q,λH=>.inr ⟨_,_,_,l,rfl,rfl,by show 9<=sizeLine;decide,.cons rfl (.cons rfl (.cons rfl (.cons rfl (.cons rfl (.cons rfl (.cons rfl (.cons rfl (.cons rfl .nil))))))))⟩⟩
theorem gl_mk{K:W.Frag}{h:Heap}{n:Str}{i:Int}{k:Tok}(X:K.In h)(G:h.Ns mainGlobals mg)(q:W.nsIn K mainGlobals n=some (some (.int i k))):∃u,mg n=some u/\RelV (.int i) u:=⟨_,W.mg_of X G q,_,rfl⟩
abbrev TT(K:W.Frag)(mg:Str->Option Value)(t:Ad):Prop:=Txt K mg t/\fM K t/\(ij t).Nodup
theorem ok_all{P:Program}{w:World}{K:W.Frag}{base:Heap}{t:Ad}(T:TT K mg t):aM P w K mg base bX 24 t.answers t.qA ["calls"] (EM K):=
 IC λn=>(Classical.epsilon_spec (p:=Ev.Bad) ⟨⟨P,w,K,mg,base,t⟩,T,n⟩).elim λa b=>b (TU a.1 a.2.1 a.2.2)
theorem aau{P:Program}{w:World}{K:W.Frag}{fa:Addr}(t:Ad)(Y:mg "answers"=some (.ref fa))(T:TT K mg t) :
  ∃U:FuncData,(∀(s:Shared) (us:List Value),us.length=(["calls"]:List Str).length->BindsTo s U ⟨us,[]⟩ ((["calls"]:List Str).zip us))/\∀base:Heap,K.In base->base.Ns mainGlobals mg->aM P w K mg base bX 24 fa U ["calls"] (EM K):=by
 have e:=Y.symm.trans T.1.UC;have Q:t.answers=fa:=by cases e;rfl
 subst Q;refine⟨t.qA,λs us L=>?_,λbase _ _=>ok_all T⟩;obtain⟨J,I,kV,O,H,G,N,E,M,q,_⟩:=T.1.HZ.ex;rw[q];revert us;exact kQ λ_=>.of_eq rfl
theorem abU{P:Program}{w:World}{K:W.Frag}{fa a0 a1 a2 a3 a4 a5 a6 a7 a8 a9 c0 c1 c2 c3 c4 c5 c6 c8 da db dd de dg dp dr ds dx dF dK dL dT dV d1 d2 d3 d4 d5 d6 ea eb ec ed ef eg eh ei ej ek el em en eo ep eq er es et ew ex Y U Q O N M L J I H G E D C B A z y v u r q p o n m l j i g f e d c b a ab al am an ap:Addr}{ey ez eB eH eK e1 e2 e3 e4 e5 e6 e9 fb fe fj fk fl fn fp ft fv fx fy fA fI fL fT f0 f1 f2 f3 f4 f5 f8 ga gd ge gf gi gl gm ar av aL ba bb bc bd be bi bl bm bn br bt bv bx b1 b2 b3 b4 ca cb cc cd ce ch ci cj cl cm cn co cr cs ct cv cw cx cB cC cE cL:FuncData}(gn:mg "answers"=some (.ref fa))(T:TT K mg ⟨a0,a1,a2,a3,a4,a5,a6,a7,a8,a9,c0,c1,c2,c3,c4,c5,c6,c8,ey,da,ez,db,eB,dd,eH,de,eK,dg,e1,dp,e2,dr,e3,ds,e4,dx,e5,dF,e6,dK,e9,dL,fb,dT,fe,dV,fj,d1,fk,d2,fl,d3,fn,d4,fp,d5,ft,d6,fv,ea,fx,eb,fy,ec,fA,ed,fI,ef,fL,eg,fT,eh,f0,ei,f1,ej,f2,ek,f3,el,f4,em,f5,en,f8,eo,ga,ep,gd,eq,ge,er,gf,es,gi,et,gl,ew,gm,ex,ar,Y,av,U,aL,Q,ba,O,bb,N,bc,M,bd,L,be,J,bi,I,bl,H,bm,G,bn,E,br,D,bt,C,bv,B,bx,A,b1,z,b2,y,b3,v,b4,u,ca,r,cb,q,cc,p,cd,o,ce,n,ch,m,ci,l,cj,j,cl,i,cm,g,cn,f,co,e,cr,d,cs,c,ct,b,cv,a,cw,ab,cx,al,cB,am,cC,an,cE,ap,cL⟩) :
  ∃fd:FuncData,(∀(s:Shared) (us:List Value),us.length=(["calls"]:List Str).length->BindsTo s fd ⟨us,[]⟩ ((["calls"]:List Str).zip us))/\∀base:Heap,K.In base->base.Ns mainGlobals mg->aM P w K mg base bX 24 fa fd ["calls"] (EM K):=aau _ gn T
end
end VS
end
namespace PySem.W.Fast
def tw12350969376670849269:=0
def tw6303002592392102582:=0
def tw10411661780949837344:=0
def tw8648962038845114027:=0
def tw12855236349078047957:=0
def tw14974932481445139265:=0
def tw3029556089991071709:=0
def tw6339542523566158461:=0
def tw7907297891183427753:=0
def tw8572992572710364985:=0
def tw12075522860307368197:=0
def tw8603548431394337133:=0
def tw7651703284415645682:=0
def tw15925620371944711286:=0
def tw12129218330143597489:=0
def tw12353550282976930009:=0
def tw10932628188685249743:=0
def tw9841000162275859232:=0
def tw16004363049034616683:=0
def tw2024360780028364758:=0
def tw1852218569252235172:=0
def tw11689852809646637785:=0
def tw8450908452708001083:=0
def tw3626602783173076657:=0
def tw8851406275068876596:=0
def tw10158344215439687609:=0
def tw6045020378633170142:=0
def tw17612284581970888959:=0
def tw17187007979966476912:=0
def tw17168645745945333406:=0
def tw5064147756056259996:=0
def tw15863181495120096794:=0
def tw7882824141024734460:=0
def tw6628544730647279830:=0
def tw6856706624887917171:=0
def tw17457181347316857631:=0
def tw17694602936875668197:=0
def tw10714916143214916598:=0
def tw6437603194356004490:=0
def tw6199688871547327933:=0
def tw17913831021243524862:=0
def tw4891915750439606418:=0
def tw11798190455107245984:=0
def tw9427686361348370769:=0
def tw12041143964885039438:=0
def tw8668309699219738904:=0
def tw13713437832926906310:=0
def tw3285742885437684405:=0
def tw1163817565757237172:=0
def tw8962614630732792749:=0
def tw2707291787024719976:=0
def tw8965749184937840730:=0
def tw12838197462977311184:=0
def tw3518303294727950967:=0
def tw9489934200369314397:=0
def tw12737403169762824018:=0
def tw9763038444609664487:=0
def tw2960632279844582189:=0
def tw9485269707156892893:=0
def tw16416810026286069634:=0
def tw4503662654576848634:=0
def tw16780720703110098185:=0
def tw17580936105066383509:=0
def tw18195399297995459249:=0
def tw11116957756219890246:=0
def tw18260426553864169288:=0
def tw15941064448337239232:=0
def tw5112348353126090279:=0
def tw515909771886234470:=0
def tw7178733231948813925:=0
def tw4531458729847796979:=0
def tw7919245719997369397:=0
def tw2480000632234181081:=0
def tw4384712544505966521:=0
def tw17657244248219231499:=0
def tw6407544140120531916:=0
def tw8778743717491604810:=0
def tw14813786549215448941:=0
def tw18111843601630673464:=0
def tw7202664565612467817:=0
def tw13047826641633982106:=0
def tw12345064425181693846:=0
def tw93819856731360733:=0
def tw18352220696811666050:=0
def tw5285689212259992787:=0
def tw5235714706763057592:=0
def tw14239413444099824341:=0
def tw14995609187314253474:=0
def tw6084996915188292624:=0
def tw11941552688046399820:=0
def tw14152942728522418648:=0
def tw7456370620882541687:=0
def tw12041678200798547886:=0
def tw5197479590716205898:=0
def tw8942338043385963713:=0
def tw8387859574172539724:=0
def tw9746091213988695350:=0
def tw9284653387932132031:=0
def tw5110309457697076612:=0
def tw15285934602410532825:=0
def tw7196760673984437175:=0
def tw3309149416425710029:=0
def tw5833907739860587800:=0
def tw10259763219347400590:=0
def tw12234381196227982984:=0
def tw3422128760088190700:=0
def tw2500947660432567905:=0
def tw10227623582108839382:=0
def tw1608411686653423215:=0
def tw18030388885524529389:=0
def tw1109488588937144368:=0
def tw13384210400044127693:=0
def tw15248141354467732968:=0
def tw1624448099328849423:=0
def tw17357445364162937497:=0
def tw1049720276334459788:=0
def tw5415444181526597407:=0
def tw12021419922441750278:=0
def tw1886646132914665693:=0
def tw9839911620089635944:=0
def tw7609079539977433981:=0
def tw9939187019017526830:=0
def tw2815779135192037510:=0
def tw6680231693230160179:=0
def tw7911830588337769022:=0
def tw11501747648806496650:=0
def tw12721774784226203379:=0
def tw12803698031044085157:=0
def tw1170057673424728440:=0
def tw160667814790386295:=0
def tw5514969072711004775:=0
def tw9917454718931050283:=0
def tw15346740825748031763:=0
def tw8817403087799005399:=0
def tw6061361083211472762:=0
def tw1269212081024882648:=0
def tw6230551374288204127:=0
def tw1607354255035864784:=0
def tw10177876651117752193:=0
def tw4971186163462218207:=0
def tw4293464522343702409:=0
def tw11537988641077059322:=0
def tw12800078527949626690:=0
def tw10211354787652311821:=0
def tw10238289562452317960:=0
def tw17443083427099972707:=0
def tw6826218581010255239:=0
def tw9942490004090359427:=0
def tw253008256042134414:=0
def tw9697057844499798:=0
def tw2725040348429487197:=0
def tw7242548810262474884:=0
def tw11050120890662589330:=0
def tw12591286619267820347:=0
def tw12686574203815343461:=0
def tw5235468326115100076:=0
def tw13656269979130055326:=0
def tw14426810489445572680:=0
def tw10572795440872410519:=0
def tw8330261932215338493:=0
def tw12883106466366217912:=0
def tw2396571589375151853:=0
def tw10915232646587418990:=0
def tw11791230710016796651:=0
def tw2037487704617884170:=0
def tw170246788259334274:=0
def tw4863643388541959414:=0
def tw6742649685786380427:=0
def tw14336665917976593747:=0
def tw10821091634120013147:=0
def tw3606164946636925484:=0
def tw3426615487817249053:=0
def tw2299754894506038896:=0
def tw10146699702243587827:=0
def tw12467687583776827075:=0
def tw13825089947940449870:=0
def tw2941425588034884404:=0
def tw15809424513695128980:=0
def tw14107655376486198805:=0
def tw9104243601912473722:=0
def tw8256665425932332858:=0
def tw2206674444500813210:=0
def tw15924135699284559246:=0
def tw11389046227678291929:=0
def tw3155035119604350415:=0
def tw10599613456993706046:=0
def tw5022589402766299601:=0
def tw3226951399776901842:=0
def tw1891145645048959147:=0
def tw14605539186129638488:=0
def tw16783144409487518135:=0
def tw345098986107382334:=0
def tw12253726734499647596:=0
def tw11105238145455325115:=0
def tw16761139784288411422:=0
def tw890400086534155539:=0
def tw14414256762387665715:=0
def tw6817675220037204616:=0
def tw10044873490584134911:=0
def tw8041064058384940339:=0
def tw4267910966078533986:=0
def tw16327544268909507820:=0
def tw12963393833987443217:=0
def tw17537763020330207895:=0
def tw13362722691528530424:=0
def tw10858255079660240004:=0
def tw17578482673661083568:=0
def tw18328551237381697231:=0
def tw2185964364694213680:=0
def tw3059026458115491087:=0
def tw2738396347718884564:=0
def tw16698538605929814764:=0
def tw2295112289784588784:=0
def tw16286026402946296487:=0
def tw10803933014968060219:=0
def tw7415681196492880735:=0
def tw13051209732421319051:=0
def tw8681053308256201708:=0
def tw8191776151787046781:=0
def tw10433044668782342709:=0
def tw1052704851407767073:=0
def tw10708155626724404360:=0
def tw7123528510574129896:=0
def tw2044738079848518927:=0
def tw14268782565063305966:=0
def tw3124998859487212391:=0
def tw11914150142440447994:=0
def tw6565987915474023899:=0
def tw5514227982307260600:=0
def tw4060592050141766248:=0
def tw14989037937957924448:=0
def tw1040065323788241772:=0
def tw8116662400261509190:=0
def tw12757038465365529093:=0
def tw7003883897761308830:=0
def tw14686540592154957016:=0
def tw9635015418349315669:=0
def tw4578214620171701501:=0
def tw14308850274970537266:=0
def tw10795134387123996926:=0
def tw14576555205267599125:=0
def tw7420178246955558579:=0
def tw8633953864626431980:=0
def tw4934472011118090998:=0
def tw18327970695435984661:=0
def tw14560523785426544861:=0
end PySem.W.Fast
open PySem PySem.W PyProof.Rows
set_option maxRecDepth 100000 in
set_option maxHeartbeats 0 in
theorem PySem.Challenge.cw_versescan_s01_answers_holds : PySem.Challenge.rw_versescan_s01_answers.Holds := by
 w_on;k_headS;(case hw=>exact ⟨[.list [.int 0,.int 1,.int 0]],by decide +kernel,by decide +kernel⟩)
 k_fillS
 refine L2.TF (r:=PySem.Challenge.rw_versescan_s01_answers) (k:=24) (CX:=L2.bX) (ps:=["calls"]) (sp:=VS.EM) (by decide +kernel) rfl rfl ⟨rfl,by decide,by decide⟩ (fun w h Y=>PySem.W.kIn_of Y) ?F ?S (fun _ _ _ _ z=>z)
 case F =>
  intro w mg fa h Y KX G hmg
  refine' VS.abU hmg ⟨⟨mg_of KX G ?_,mg_of KX G ?_,mg_of KX G ?_,mg_of KX G ?_,mg_of KX G ?_,mg_of KX G ?_,⟨?_,?_,?_,?_⟩,⟨?_,?_,?_,?_⟩,VS.cN ?_,VS.cN ?_,VS.cN ?_,mg_of KX G ?_,⟨?_,?_,?_,?_⟩,⟨?_,?_,?_,?_⟩,VS.cN ?_,VS.cN ?_,mg_of KX G ?_,⟨?_,?_,?_,?_⟩,⟨?_,?_,?_,?_⟩,VS.cN ?_,VS.cN ?_,mg_of KX G ?_,⟨?_,?_,?_,?_⟩,⟨?_,?_,?_,?_⟩,VS.cN ?_,VS.cN ?_,VS.cN ?_,mg_of KX G ?_,⟨?_,?_,?_,?_⟩,⟨?_,?_,?_,?_⟩,VS.cN ?_,VS.cN ?_,VS.cN ?_,VS.cN ?_,VS.cN ?_,mg_of KX G ?_,⟨?_,?_,?_,?_⟩,⟨?_,?_,?_,?_⟩,VS.cN ?_,VS.cN ?_,⟨?_,?_,?_⟩,⟨?_,?_,?_⟩,⟨?_,?_,?_⟩,mg_of KX G ?_,⟨?_,?_,?_,?_⟩,⟨?_,?_,?_,?_⟩,VS.cN ?_,VS.cN ?_,VS.cN ?_,VS.cN ?_,mg_of KX G ?_,⟨?_,?_,?_,?_⟩,⟨?_,?_,?_,?_⟩,VS.cN ?_,VS.cN ?_,mg_of KX G ?_,⟨?_,?_,?_,?_⟩,⟨?_,?_,?_,?_⟩,VS.cN ?_,VS.cN ?_,VS.cN ?_,mg_of KX G ?_,⟨?_,?_,?_,?_⟩,⟨?_,?_,?_,?_⟩,VS.cN ?_,VS.cN ?_,VS.cN ?_,mg_of KX G ?_,⟨?_,?_,?_,?_⟩,⟨?_,?_,?_,?_⟩,VS.cN ?_,VS.cN ?_,VS.cN ?_,VS.cN ?_,⟨?_,?_,?_⟩,⟨?_,?_,?_⟩,⟨?_,?_,?_⟩,mg_of KX G ?_,⟨?_,?_,?_,?_⟩,⟨?_,?_,?_,?_⟩,VS.cN ?_,VS.cN ?_,VS.cN ?_,VS.cN ?_,L2.aJ ?_ ?_ ?_,L2.aJ ?_ ?_ ?_,L2.aJ ?_ ?_ ?_,L2.aJ ?_ ?_ ?_,L2.aJ ?_ ?_ ?_,L2.aJ ?_ ?_ ?_,L2.aJ ?_ ?_ ?_,mg_of KX G ?_,L2.aJ ?_ ?_ ?_,mg_of KX G ?_,L2.aJ ?_ ?_ ?_,mg_of KX G ?_,L2.aJ ?_ ?_ ?_,mg_of KX G ?_,L2.aJ ?_ ?_ ?_,L2.aJ ?_ ?_ ?_,L2.aJ ?_ ?_ ?_,L2.aJ ?_ ?_ ?_,mg_of KX G ?_,L2.aJ ?_ ?_ ?_,mg_of KX G ?_,L2.aJ ?_ ?_ ?_,mg_of KX G ?_,L2.aJ ?_ ?_ ?_,mg_of KX G ?_,L2.aJ ?_ ?_ ?_,mg_of KX G ?_,L2.aJ ?_ ?_ ?_,mg_of KX G ?_,L2.aJ ?_ ?_ ?_,mg_of KX G ?_,L2.aJ ?_ ?_ ?_,mg_of KX G ?_,L2.aJ ?_ ?_ ?_,L2.aJ ?_ ?_ ?_,mg_of KX G ?_,L2.aJ ?_ ?_ ?_,mg_of KX G ?_,L2.aJ ?_ ?_ ?_,mg_of KX G ?_,L2.aJ ?_ ?_ ?_,mg_of KX G ?_,L2.aJ ?_ ?_ ?_,mg_of KX G ?_,L2.aJ ?_ ?_ ?_,mg_of KX G ?_,L2.aJ ?_ ?_ ?_,mg_of KX G ?_,L2.aJ ?_ ?_ ?_,mg_of KX G ?_,L2.aJ ?_ ?_ ?_,mg_of KX G ?_,L2.aJ ?_ ?_ ?_,mg_of KX G ?_,L2.aJ ?_ ?_ ?_,mg_of KX G ?_,L2.aJ ?_ ?_ ?_,L2.aJ ?_ ?_ ?_,L2.aJ ?_ ?_ ?_,L2.aJ ?_ ?_ ?_,L2.aJ ?_ ?_ ?_,L2.aJ ?_ ?_ ?_,mg_of KX G ?_,L2.aJ ?_ ?_ ?_,mg_of KX G ?_,L2.aJ ?_ ?_ ?_,mg_of KX G ?_,L2.aJ ?_ ?_ ?_,mg_of KX G ?_,L2.aJ ?_ ?_ ?_,mg_of KX G ?_,L2.aJ ?_ ?_ ?_,mg_of KX G ?_,L2.aJ ?_ ?_ ?_,mg_of KX G ?_,L2.aJ ?_ ?_ ?_,mg_of KX G ?_,L2.aJ ?_ ?_ ?_,mg_of KX G ?_,L2.aJ ?_ ?_ ?_,mg_of KX G ?_,L2.aJ ?_ ?_ ?_,mg_of KX G ?_,L2.aJ ?_ ?_ ?_,mg_of KX G ?_,L2.aJ ?_ ?_ ?_,mg_of KX G ?_,L2.aJ ?_ ?_ ?_,mg_of KX G ?_,L2.aJ ?_ ?_ ?_,mg_of KX G ?_,L2.aJ ?_ ?_ ?_,L2.aJ ?_ ?_ ?_,L2.aJ ?_ ?_ ?_,mg_of KX G ?_,L2.aJ ?_ ?_ ?_,mg_of KX G ?_,L2.aJ ?_ ?_ ?_,mg_of KX G ?_,L2.aJ ?_ ?_ ?_,mg_of KX G ?_,L2.aJ ?_ ?_ ?_,mg_of KX G ?_,L2.aJ ?_ ?_ ?_,L2.aJ ?_ ?_ ?_,L2.aJ ?_ ?_ ?_,L2.aJ ?_ ?_ ?_,L2.aJ ?_ ?_ ?_,L2.aJ ?_ ?_ ?_,L2.aJ ?_ ?_ ?_,mg_of KX G ?_,L2.aJ ?_ ?_ ?_,mg_of KX G ?_,L2.aJ ?_ ?_ ?_,mg_of KX G ?_,L2.aJ ?_ ?_ ?_,mg_of KX G ?_,L2.aJ ?_ ?_ ?_,mg_of KX G ?_,L2.aJ ?_ ?_ ?_,mg_of KX G ?_,L2.aJ ?_ ?_ ?_,mg_of KX G ?_,L2.aJ ?_ ?_ ?_,mg_of KX G ?_,L2.aJ ?_ ?_ ?_,mg_of KX G ?_,L2.aJ ?_ ?_ ?_,mg_of KX G ?_,L2.aJ ?_ ?_ ?_,mg_of KX G ?_,L2.aJ ?_ ?_ ?_,mg_of KX G ?_,L2.aJ ?_ ?_ ?_,mg_of KX G ?_,L2.aJ ?_ ?_ ?_,mg_of KX G ?_,L2.aJ ?_ ?_ ?_,mg_of KX G ?_,L2.aJ ?_ ?_ ?_,mg_of KX G ?_,L2.aJ ?_ ?_ ?_,mg_of KX G ?_,VS.gl_mk KX G ?_,VS.gl_mk KX G ?_,VS.gl_mk KX G ?_,VS.gl_mk KX G ?_,VS.gl_mk KX G ?_,VS.gl_mk KX G ?_,VS.gl_mk KX G ?_,VS.gl_mk KX G ?_,VS.gl_mk KX G ?_,VS.gl_mk KX G ?_,VS.gl_mk KX G ?_,VS.gl_mk KX G ?_,VS.gl_mk KX G ?_,VS.gl_mk KX G ?_,VS.gl_mk KX G ?_,VS.gl_mk KX G ?_,VS.gl_mk KX G ?_,VS.gl_mk KX G ?_,VS.Xr KX G ?_ ?_,mg_none_of KX G ?_,mg_none_of KX G ?_,mg_none_of KX G ?_,mg_none_of KX G ?_,mg_none_of KX G ?_,mg_none_of KX G ?_,mg_none_of KX G ?_,mg_none_of KX G ?_⟩,⟨⟨?_,?_,?_⟩,⟨?_,?_,?_,?_⟩,⟨VS.NU ?_ ?_ ?_ ?_ ?_ ?_,?_,?_,?_,?_,?_⟩,⟨VS.NU ?_ ?_ ?_ ?_ ?_ ?_,?_,?_,?_,?_,?_⟩,⟨VS.NU ?_ ?_ ?_ ?_ ?_ ?_,?_,?_,?_,?_,?_⟩,⟨VS.NU ?_ ?_ ?_ ?_ ?_ ?_,?_,?_,?_,?_,?_⟩,?_,?_,?_,?_,?_,?_,?_,?_,?_,?_,?_,?_⟩,?_⟩
  all_goals try k_is
  all_goals try dsimp only
  all_goals try k_is
  all_goals try dsimp only
  all_goals try k_is
  all_goals first | kernel_rfl | decide
 case S =>
  intro K H xs a hO hwi hask hx
  cases hx with
  | cons h1 h2 =>
   cases h2
   cases h1 with
   | lst hs ha =>
    have e:=L2.SN a.1 _ ha
    subst e
    exact ⟨_,a.1,rfl,hs,hask,fun p H' hp=>.lst (L2.dn.of hp) (L2.So _)⟩
