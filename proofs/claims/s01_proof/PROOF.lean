import PyProof.Rows.All
import Wide.All
import OpenK.AllK
import Wide.FinOn
import PyProof.EqAt
import PyProof.EqKinds
import PyProof.TupleCall
import KE.BitLaws
import KE.OsGo
import KE.OsMore
import PyProof.InstEq
import PyProof.Rows.SetFrom
import PyProof.Rows.SortShellAny
import Open.SpecLaws
import Kgz1Spec
import Kgz2Spec
import PySem.Challenge.RW_versefeet_s01_answers
set_option Elab.async false
set_option linter.all false
set_option maxRecDepth 100000
set_option maxHeartbeats 4000000
def ArW:=@List.getElem?_eq_getElem
def ArX:=@List.length_map
def ArY:=@List.getElem?_map
def Ar_:=@decide_eq_false
def Asa:=@if_neg
def Asb:=@Nat.le_refl
def Asc:=@List.getElem?_eq_some_iff
def Asd:=@if_pos
def Ase:=@Option.some.inj
def Asf:=@decide_eq_true
def Ash:=@List.mem_cons_of_mem
def Asi:=@List.length_append
def Ask:=@List.getElem?_append_left
def Asl:=@List.mem_of_getElem?
def Asm:=@Nat.zero_le
def Asn:=@List.map_cons
def Aso:=@List.getElem?_append_right
def Asr:=@Ne.symm
def Ass:=@Nat.lt_of_lt_of_le
def Ast:=@Bool.false_ne_true
def Asv:=@List.getD_eq_getElem?_getD
def Asw:=@List.getElem_mem
def Asx:=@List.mem_map
def Asy:=@List.getElem_of_mem
def Asz:=@List.mem_cons
def As0:=@List.mem_append
def As1:=@List.length_cons
def As2:=@List.size_toArray
def As4:=@List.length_range
def As5:=@Nat.pow_le_pow_right
def As6:=@List.mem_append_right
def As7:=@List.map_append
def As8:=@List.drop_eq_getElem_cons
def As9:=@List.getElem?_eq_none
def AsA:=@List.take_succ
def AsB:=@List.map_map
def AsC:=@List.take_length
def AsD:=@List.length_singleton
def AsE:=@Nat.one_shiftLeft
def AsF:=@Bool.and_eq_true
def AsG:=@List.mem_cons_self
def AsI:=@List.mem_append_left
def AsJ:=@List.ext_getElem?
def AsL:=@List.all_eq_true
def AsM:=@List.getElem?_eq_none_iff
def AsN:=@List.length_eq_zero_iff
def AsP:=@Nat.ne_of_lt
def AsR:=@List.eq_nil_or_concat
def AsS:=@List.length_take
def AsT:=@List.nodup_append
def AsU:=@List.map_congr_left
def AsV:=@Nat.le_trans
def AsW:=@List.take_of_length_le
def AsY:=@List.getElem?_range
def AsZ:=@Nat.zero_add
def Ata:=@List.any_cons
def Atb:=@List.mem_singleton
def Atc:=@beq_eq_false_iff_ne
def Atd:=@Nat.testBit_and
def Ate:=@Nat.testBit_or
def Atg:=@Nat.eq_of_testBit_eq
def Ath:=@List.filter_append
def Ati:=@List.foldl_cons
def Atj:=@List.mem_range
def Atk:=@List.concat_eq_append
def Atl:=@List.range_succ
def Atn:=@Nat.lt_pow_two_of_testBit
def Atp:=@Option.toList_some
def Atq:=@Nat.lt_or_ge
def Atr:=@Nat.testBit_shiftLeft
def Atv:=@List.drop_zero
def Atw:=@List.all_map
def Atx:=@Bool.or_eq_true
def Aty:=@Bool.eq_iff_iff
def Atz:=@List.nil_append
def At0:=@decide_eq_decide
def At1:=@Nat.testBit_lt_two_pow
def At2:=@List.map_eq_nil_iff
def At3:=@List.append_assoc
def At4:=@List.foldl_append
def At5:=@Bool.false_and
def At6:=@Nat.add_sub_cancel
def At8:=@List.cons_append
def At9:=@Nat.sub_self
def AtA:=@Int.ofNat.inj
def AtB:=@congrArg
def AtC:=@List.replicate_succ
def AtE:=@List.mem_map_of_mem
def AtH:=@List.length_drop
def AtI:=@List.length_tail
def AtJ:=@List.all_cons
def AtK:=@List.sum_cons
def AtM:=@List.getElem?_cons_succ
def AtN:=@Int.toNat_natCast
def AtO:=@List.mem_filter
def AtP:=@Nat.testBit_two_pow
def AtQ:=@List.findIdx?_eq_some_iff_getElem
def AtR:=@Nat.le_succ
def AtS:=@Bool.true_and
def AtT:=@Nat.lt_irrefl
def AtU:=@Nat.le_add_right
def AtY:=@List.nodup_cons
def AtZ:=@Nat.min_eq_left
def Aub:=@List.flatten_cons
def Aud:=@List.getLast?_eq_some_getLast
def Auf:=@List.take_succ_cons
def Aug:=@Array.length_toList
def Aui:=@Nat.testBit_two_pow_sub_one
def Auj:=@Nat.ne_of_gt
def Aum:=@List.append_nil
def Aun:=@List.length_filter_le
def Aup:=@decide_eq_true_eq
def Aut:=@of_decide_eq_true
def Auu:=@beq_iff_eq
def Auw:=@List.nodup_nil
def Auz:=@List.drop_succ_cons
def Au3:=@List.map_inj_right
def Au4:=@Nat.lt_of_le_of_lt
def Au6:=@List.filter_eq_nil_iff
def Au7:=@Nat.lt_succ_of_lt
def Au8:=@List.flatMap_cons
def AuB:=@List.length_replicate
def AuD:=@Bool.and_false
def AuI:=@List.drop_length
def AuJ:=@List.filter_cons
def AuK:=@List.mem_flatMap
def AuL:=@Nat.pow_lt_pow_right
def AuM:=@List.map_take
def AuR:=@Nat.testBit_xor
def AuS:=@Nat.two_pow_pos
def AuT:=@List.getElem?_zip_eq_some
def AuU:=@Option.map_some
def AuV:=@List.length_nil
def AuX:=@List.map_nil
def Avc:=@List.flatMap_eq_nil_iff
def Ave:=@Nat.le_of_succ_le
def Avg:=@Bool.not_eq_true'
def Avh:=@List.pairwise_map
def Avi:=@List.getElem?_set_self
def Avj:=@List.range_succ_eq_map
def Avl:=@Nat.lt_succ_self
def Avo:=@Nat.zero_testBit
def Avs:=@List.take_append_drop
def Avu:=@Nat.mul_comm
def Avv:=@Nat.le_of_lt
def Avw:=@List.getElem?_set_ne
def Avy:=@Nat.le_of_eq
def Avz:=@List.of_mem_zip
def Av0:=@List.length_dropLast
def Av2:=@List.mem_of_mem_take
def Av6:=@List.pairwise_append
def Av7:=@List.find?_cons
def Av9:=@List.eq_nil_of_length_eq_zero
def AvB:=@List.filter_flatMap
def AvC:=@List.length_reverse
def AvD:=@List.filterMap_cons
def AvG:=@ne_true_of_eq_false
def AvH:=@List.toList_toArray
def AvI:=@List.zipWith_append
def AvJ:=@List.drop_drop
def AvL:=@Nat.add_mul
def AvR:=@List.pairwise_cons
def AvX:=@Array.getElem?_eq_some_iff
def AvZ:=@Option.ne_none_iff_exists'
def Av_:=@List.filter_congr
def Awb:=@Nat.shiftLeft_add
def Awc:=@Classical.byContradiction
def Awf:=@List.mem_of_find?_eq_some
def Awg:=@List.getLast?_eq_getElem?
def Awh:=@List.zipIdx_cons
def Awi:=@Nat.shiftLeft_eq
def Awn:=@Option.isSome_iff_exists
def Awo:=@List.getElem?_take_of_lt
def Awq:=@Nat.succ_ne_self
def Aws:=@List.contains_eq_any_beq
def Aw0:=@List.count_cons
def Aw1:=@List.sum_append
def Aw4:=@List.length_zip
def AwC:=@Nat.log2_lt
def AwH:=@List.forIn_nil
def AwK:=@List.take_zero
def AwO:=@List.all_congr
def ArZ:=@PySem.wpAny_bind
def Asg:=@PySem.wpAny_pure
def Asj:=@PySem.Heap.get?_push_of_some
def Asp:=@PySem.Heap.get?_push_size
def Asq:=@PySem.PassesOwn.never
def Asu:=@PySem.Heap.lt_size
def As3:=@PySem.F.plainAttrs_list
def AsH:=@PySem.F.slot_list_append
def AsK:=@PySem.F.type_list_append
def AsO:=@PyProof.Rows.callWith_type1
def AsQ:=@PySem.mem_of_lookup
def AsX:=@PySem.Heap.size_push
def As_:=@PySem.wpAny_newObj_type
def Atf:=@PySem.wpAny_call_entry
def Atm:=@PySem.wpAny_truthy_bool
def Ato:=@PySem.Calls.callWith_builtin
def Ats:=@PySem.wpAny_field
def Atu:=@PySem.wpAny_callSpecial?_slot
def At7:=@PySem.Calls.spliced_cons
def AtD:=@PySem.Heap.SameBut.update
def AtF:=@PySem.F.slot_dict_valueiterator_next
def AtG:=@PySem.wpAny_pyIter_tuple
def AtL:=@PySem.wpAny_mono
def AtV:=@PySem.wpAny_seqItems
def AtW:=@PySem.wpAny_Call_Name_kw
def AtX:=@PySem.F.slot_dict_get
def At_:=@PySem.wpAny_pyIter_list
def Aua:=@PySem.Calls.spliced_nil
def Auc:=@PySem.call_meets
def Aue:=@PySem.wpAny_typeNameOfWhole_valiter
def Auh:=@PyProof.Rows.slot_tuple_getitem
def Auk:=@PySem.wpAny_setField_rec
def Aul:=@PySem.wpAny_passesOwn
def Auo:=@PySem.F.plainAttrs_dict
def Auq:=@PySem.eqIsQuiet_byValue
def Aur:=@PySem.wpAny_dictEntries
def Aus:=@PySem.wpAny_pyIter_enum
def Auv:=@PySem.Calls.evalArgs_plain
def Aux:=@PySem.wpAny_isInstance
def Auy:=@PySem.wpAny_typeNameOf_valiter
def Au0:=@PySem.wpAny_holding
def Au1:=@PySem.wpAny_specialOf
def Au2:=@PySem.F.slot_list_extend
def Au5:=@PySem.F.entry_dict_get
def Au9:=@PySem.wpAny_Call_method
def AuA:=@PyProof.Rows.Call_
def AuC:=@PySem.Heap.get?_update_self
def AuE:=@PySem.F.slot_dict_keyiterator_next
def AuF:=@PySem.F.slot_dict_setdefault
def AuG:=@PySem.wpAny_callSpecialIfBoundUnlessNone?_slot
def AuH:=@PySem.typeIs_str
def AuN:=@PySem.wpAny_attempt
def AuO:=@PySem.wpAny_letOwnedTupleGo_enum
def AuP:=@PySem.sizeLine_eq
def AuQ:=@PySem.evalArgs_none
def AuW:=@PySem.wpAny_dictEpoch
def AuY:=@PySem.call_meetsIn
def AuZ:=@PySem.F.type_list_extend
def Au_:=@PySem.Obj.data_mapFields
def Ava:=@PySem.wpAny_rule
def Avb:=@PySem.wpAny_setField
def Avd:=@PySem.F.slot_tuple_hash
def Avf:=@PyProof.Rows.boot_enumerate
def Avk:=@PySem.F.slot_bool_hash
def Avm:=@PySem.wpAny_pyIter_zip
def Avn:=@PySem.F.slot_str_split
def Avp:=@PySem.F.args_dict_valueiterator_next_1
def Avq:=@PySem.wpAny_notOrdered_dict
def Avr:=@PySem.wpAny_isOneOf_valiter
def Avt:=@PySem.F.entry_dict_valueiterator_next
def Avx:=@PySem.wpAny_execs_nil
def Av1:=@PySem.pushCells_keeps
def Av3:=@PySem.F.slot_zip_next
def Av4:=@PySem.wpAny_updateSeq_pair
def Av5:=@PySem.F.args_dict_setdefault_3
def AvA:=@PySem.F.entry_dict_setdefault
def AvE:=@PySem.W.plainGet_of
def AvF:=@PySem.F.slot_list_index
def AvK:=@PySem.isSubtype_stop
def AvM:=@PySem.wpAny_tupleItemsOf
def AvN:=@PySem.SeqAt.EqAt.int_str
def AvO:=@PySem.SeqAt.EqAt.str_int
def AvP:=@PySem.W.callWith_K
def AvQ:=@PySem.F.args_str_split_2
def AvS:=@PySem.F.slot_dict_values
def AvU:=@PySem.W.mg_of
def AvW:=@PySem.wpAny_onRaise
def AvY:=@PyProof.Rows.sortedAll_old
def Awa:=@PySem.F.entry_str_split
def Awe:=@PyProof.Rows.sortedAll_at
def Awm:=@PySem.codeAny_mono
def Awr:=@PySem.W.nsMap_none_of_in
namespace Vp
theorem Agw:PySem.Challenge.rw_versefeet_s01_answers.wellSaid=true:=by decide+kernel
end Vp
abbrev W_T:=Lean.TSyntax `term
abbrev W_M:=Lean.MacroM W_T
def W_U{a}:Lean.MacroM a:=Lean.Macro.throwUnsupported
set_option hygiene false
def W_0(a b c d e f:W_T):List W_M:=[`(by omega),`(mY Nat),`(by simp),`(mQW K),`(sI H s),`(Asb _),`((29,2,12,2,12,12)),`(mB o),`(mF a),`(Aj m),`(mY V),`(pv 0),`(mB u),`(Str->Option Value),`(mGi H),`(mY Addr),`(pv 1),`(Asm _),`(mF p),`(mY Value),`(An m),`(TL.tl x),`(pv 2),`(qK 0),`(mB x),`(mH rfl)]
def W_1(a b c d e f:W_T):List W_M:=[`(vI Addr Obj),`(by decide),`(model prog w),`(Nat->Nat),`(Asd rfl),`(pv 3),`(mY Int),`(vI Ky V),`(pv 4),`(mB v),`(Value->Shared->Prop),W_U,`(model X.prog X.w),`(mM e),`(oG V),`(mG p),`(pv 5),`(ab.As (by decide)),`(mM bB),`(mB c),`(mK e),`(mY aB),`(mF b),`(mQZ m),`((_,2)),`(mY Str)]
def W_2(a b c d e f:W_T):List W_M:=[`(mQ0 Nat),`(mE 0),`(pv 6),`(Az ?_),`(AH S i),`(mR hb),`(ArZ ?_),`(X.K=K),`(λ_ _ _ _ _=>Cw),`(qK 1),`(["self"]),`(mY α),`(λvs H Q E h=>?_),`(mHC 0),`(Asg ?_),`([aI]),`(B3 m j),`(Bs s),`(mF x),`(mQI An m),`(oJ .Ax),`(Bd i f),`(mJ hj),`(nK x),`(Cv n q aC),`(s.heap.objs.size+1)]
def W_3(a b c d e f:W_T):List W_M:=[`(mB q),W_U,`(mF d),`(mY Vf.Txt),`(qK 3),W_U,`(B0 f0),`(Bu S i),`(B0 f),`(fnA bnd1),W_U,`(mY Txt),`(by simp;omega),`(mY dL),`(yX V),`(oG Int),`(H' D),`(b.As bB),W_U,W_U,`(mT aQ),`(mY Wd),`(mHC 1),`(Ck l),`(λx hx=>?_),`(mI rfl)]
def W_4(a b c d e f:W_T):List W_M:=[`(hf it aC),`(Co σ vs),`(AL aA),`(Au ?_),`(c.As bB),`(d.As bB),`(by first|exact Or.inl rfl|exact Or.inr rfl),`(λq hq=>?_),`(r++[k]),`(H' c),`(DT t X),`(Aso aA),W_U,`(H' b),`(sV y),`(mDr mF),`(Asp _ rfl),`(mF l),`(sQ D),W_U,`(By Ai),`(yH k),`(Ds κ),`(λc=>c=p),`(meA bnd2),`(mE i)]
def W_5(a b c d e f:W_T):List W_M:=[`(Ab.refl _),`(Db DX Ar),`(BE w sh.Bk),`(r++[u]),`(mR h),`(mM aA),`(qO xs),`(sV v),`(vI κ V),`(oE "list"),`(Asu e),`(oI xs),`(λb hb=>?_),`(X.calm=true),`(j.BW _),`(mJ aA),`(yX Addr),`(tl x),`(Ab H H1),`(AL (by rw[BT];omega)),`(BA kI),`(qZ 1),`(oH rfl),`(DG st k),`(Cb (Cc X.E.S q)),`(mK h)]
def W_6(a b c d e f:W_T):List W_M:=[`(mY BU),`(mY Bq),`(Cm P w H h),W_U,`(EP X pins σ Q),`(vE St),`(Str×V),`(mB p),`([mQ 0]),`(pv 7),`(yH j),`(mAC 2),`(mM h),`(pH h x hx),`(pN h),`(e::es),`(tV xs),`(["bits"]),`(zI B9 2),`(λ_ _=>rfl),`(st.map C5),W_U,`(Ah hc),`(c.As aA),`(Nat×Nat),`(mK aA)]
def W_7(a b c d e f:W_T):List W_M:=[`(Bq->Bool),`(oE "tuple"),`(oT b),`(Ah hb),`(λp hp=>?_),W_U,`(nV xs),`(nR e te),`(Hp->Prop),`(pI C fs),`(V->mY V->Hp->VK->Prop),`(mF D),`(qK 4),`(FZ st),`(Do m j),`(meA bnd3),`(λy hy=>?_),`(h a aC),`(mR e),`(vI C3 V),`(KV kvs vs),`(oG Addr),`(mY Expr),`(nR a ta),`(AJ x v),`(mAz hs)]
def W_8(a b c d e f:W_T):List W_M:=[`(AtR _),`(ns.map V.int),`(tV iB),`(.dT []),`(λj v _ _ h _=>h),`((0,79)),`(mQ 0),`(mJN l.map),`(mY Cr),`(tI H x),`(Ev B o H o' H'),`(h.ge g hg),`(S.map Cr.wd),`(Bd j (Ee m j)),`(Gd t Z),`(fnA bnd2),`(mY Sound),`(mY Rw),`(mH q),`(B5 aJ.AW q Am),`(mY Ky),`(AsM.mp e),`(mF f),`(mV k aZ e),`(.Al xs),`(mF it)]
def W_9(a b c d e f:W_T):List W_M:=[`(pK e),`((_,Asp _ rfl,29)),`(p::r),`(Bc kvs k),`(.dK []),`(tl y),`(ns.map Int.toNat),`(HE rfl rfl rfl rfl),`(x.all Kgz1.isLetter),`(mY dD),`(w<=4),`(vI Row Nat),`((2,GG ?_)),`(mH (v.W:Int)),`(λ_ _ z=>z),`(mAC 1),`(mY WC),`(R i),`(Wk Z.st k),`(meA bnd4),`(y::r),`(T.B2 len),`(nS hc),`(Array Value),`(mH h),`(mY Env)]
def W_10(a b c d e f:W_T):List W_M:=[W_U,`(nR o to),`(g i j),`(some none),`(mG f),`(mM aC),`(yX NameKind),`(mT aW),`(by rw[ArX];omega),`(pv 8),`(Kgz1.wrong l.length l),`(iv dX),`(ci l),`(Nat->Nat->Nat),`(oP N),`(mF X.F),`(Ap (K:=K) rfl aX rfl),`(mG X.F),`(λh=>nL h aA),`(AN Dh b D|||1<<<(b+D.length)),`(d::r),W_U,`(A++B),`(mLu st d.1 d.2),`(AN Du 0 aU),`(c.place+1)]
def W_11(a b c d e f:W_T):List W_M:=[`(ss.map BO),`(some .local),`(vE Bool),`(Q v H),`(J.go i H),`(J.Fg i H x H'),`(A.units+64<cLine),`(A.handled=none),`(rel.val k),`(X.A.units+64<cLine),`(["text"]),`(Aso aF),`(λ_=>rfl),`(As9 aA),`(mT bI),`(mE (n:Int)),`(oF aW),`(Es m),`(mX s1 s2),`(∀k∈r,k<st.length),`(uA x hj),`(AH X.E.S i),`(AH X.E.S j),`(gD f),`(mO i x j),`(g.take j)]
def W_12(a b c d e f:W_T):List W_M:=[W_U,`(some $a),`($a _ _ $b),W_U,`(.int $a),`(.ref $a),`(mB (.ref $a)),`(.inl $a),`(.inr $a),`(ArW $a),`(Asd $a),W_U,`(Asa $a),`(Ae.of $a),`(⟨$a,$b,$c⟩),`(Ab.Aa $a),`(V.int $a),`(by simpa using $a),`(Ar_ $a),`(Ad $a Ai),`(Asf $a),`($a _ _ $b $c),`(oZ mE $a),`(Ab.trans $a $b),`(List $a),`(ArZ $a)]
def W_13(a b c d e f:W_T):List W_M:=[`($a $b=none),`(.Ag $a dx $b),`(V.ref $a),`(Ae.of ($a _ _ $b)),`(Aa $a $b (.Ac $c)),`($a V.ref),`(AU $a $b AY),`(mC s $a),`($a $b=true),`($a b hb),`(.str $a),`(absurd $a $b),`(Bp (AG $a) $b),`(Aa $a p $b),`(A8.of $a),`(mC $a (mC $b $c)),`(Ah (Asr $a)),`(PE X $a $b),`(Asc.mp $a),`(AQ rfl $a $b),`(s.heap.get? $a),`(mB (.Ac $a)),`(nV (iv $a)),`(Aa H $a $b),`(fs.lookup $a),`(Ah (AR e $a))]
def W_14(a b c d e f:W_T):List W_M:=[`($a ($a $b)),`($a $b=some $c),`(AI (i:=$a) $b rfl eG),`(by rw[$a:term];exact $b),`(.type $a),`(AX aL $a rfl),`(Option $a),`(⟨$a,?_⟩),`(mB (.Al $a)),`(Q $a H'),`(.str (mk $a)),`(Ao (A3 $a)),`((_,mN $a)),`(by rw[Ah $a];exact $b),`($a=true),`(List.range $a),`($a pins s σ H _ $b h),`(mX $a (mP $b)),`(As0.mp $a),`(h.get? $a),`(eval $a X.env),`(Ad $a (mT $b)),`($a $b cM (λaa A outer s H vs Q E ab h=>?_)),`(List.replicate $a $b),`($a x hx),`(mB ($a $b))]
def W_15(a b c d e f:W_T):List W_M:=[`(Asx.mp $a),`(Ba $a $b $c (Bf _)),`($a =some $b),`(by rw[$a:term];simp),`(λ_ _ _ _ _=>(oC $a $b)),`(nV (nF $a)),`($a=false),`($a $b (Ash _ $c)),`(mB (nB $a $b)),`(Bv $a n),`(Asj _ $a),`(.inl (2,_,mN $a)),`(b.testBit $a),`(Asz.mp $a),`(ArZ ($a $b $c ?_)),`(nA H $a),`($a b o e),`(mX $a (mX $b $c)),`(mO2 pv $a $b),`(.Ac (iv $a)),`(zV H o $a),`($a $b=false),`(by rw[$a:term,$b:term]),`($a<=sizeLine),`(A6 (i:=2) $a rfl eG $b),`(λ_ _ _ _ _=>$a)]
def W_16(a b c d e f:W_T):List W_M:=[`(mC s2 $a),`(AL (by show $a<=_;omega)),`(BJ (K:=K) rfl $a),`(BZ (own:=[$a]) (xP $b $c)),`(A6 (i:=4) $a rfl eG $b),`(by rw[$a:term];rfl),`(h'.get? $a),`(Ab.BG $a $b),`($a $b cM (λa A outer s H vs Q E b h=>?_)),`(Cf K $a),`(Ap (K:=K) rfl (pv $a) rfl),`(Aa $a $b (.own $c)),`(nE $a $b []),`(wpAny _ _ $a _ _ $b),`(AB $a us),`(["self",$a]),`(zG (rZ B9) $a $b),`(Ep (K:=K) rfl $a (λ_=>rfl)),`(mC s1 $a),`(by rw[$a:term];omega),`(⟨_,$a⟩),`(nN H $a),`(hy _ (nD $a $b)),`(nO (mC $a $b)),`(mC Y $a),`(by show $a<1000;decide)]
def W_17(a b c d e f:W_T):List W_M:=[W_U,`(Gw.same $a),`($a p hp),`($a q hq),`(Value.ref $a),`(⟨$a,$b,?_⟩),`(Q (.bl $a) H),`($a _ _ _ _ $b),W_U,`(BS Asq rfl $a $b $c),`(mB (.dK $a)),`(A6 (i:=3) $a rfl eG $b),`(pI $a []),W_U,`((_,nD $a $b,34)),`(Cs X.E $a $b $c),`(CK X.E κ $a $b),`(.cons $a $b),`(K.lookup $a),`($a pins s1 σ H1 _ $b $c),W_U,`(As6 _ $a),`($a _ _ _ $b),`(V.str (mk $a)),`(mC s3 $a),`($a (K:=K) rfl)]
def W_18(a b c d e f:W_T):List W_M:=[`(A6 (i:=5) $a rfl eG $b),W_U,`($a c u e),`(l.map $a),`(Ash _ $a),`(X.env.cells.lookup $a),`(wpAny bM X.A $a $b X.xe $c),`(False.elim $a),`(Inv X pins σ $a $b),`(TL.tl $a),W_U,`($a $b=some (.Ac $c)),`(["self",$a,$b]),`(zG (rZ BH) $a $b),`((19,nD $a $b,by rw[ArY,ArW $c];rfl)),`(Q .Ax $a),`(oJ (mF $a)),`(mB ($a,none,)),`($a (i+1)),`(b.getD $a 0),`(mZ (Asg $a)),`(AJ $a u),`(mB (.Bw $a $b)),`(D.nx σ $a),`(Q (mE $a) H),`(⟨_,$a,rfl⟩)]
def W_19(a b c d e f:W_T):List W_M:=[W_U,W_U,W_U,`(Ab H1 $a),`(A6 (i:=1) $a rfl eG $b),`(mQX (oC $a $b) (oC $c $b)),`(A6 (i:=6) $a rfl eG $b),`($a ((1<<<$b :Nat):Int)),`(Cd t $a $b v),`($a (used:Int)),`(Rg $a κ a),`(zY nW $a),`(Fr $a H H'),`($a _ _ $b trivial),`(($a $b).length=$c),`(B5 aJ.AW $a $b),`($a s.heap $b $c),`(Rd H a $a),`(nA X.mg $a),`(.builtin $a),`(u=Value.ref $a),`(Ae K H a $a),`(nM 69 $a),`(TL.tl (mAy $a)),`(AsN.mp $a),`(By (mT $a))]
def W_20(a b c d e f:W_T):List W_M:=[`(⟨$a,rfl,(Ase $b).symm⟩),`(Kgz1.parts $a $b []),`(Ad $a (mT $b)),`(Bh (C4 (K:=K) rfl) rfl T.B7 B8 (mT ($a $b))),`(zI BH $a),`(r.map $a),`(e.free $a $b),`($a (($b $c :Nat):Int)),`(mN (fr _ _ $a $b)),`(by rw[<-$a];exact $b),`(nL rfl $a),`(sc.names.lookup $a),`(($a==("__debug__":Str))=false),`(Pv $a σ H),`(Q ($a $b) H),`(attributeBase $a $b X.env (eval $a X.env)=eval $a X.env),`(call (.builtin $a) $b),`($a _ _ _),`(pB CL $a $b),`($a _ (Asw $b)),`(mH (mN $a)),`(Ad $a (mT $a)),`(AE Hc $a $b),`($a c u e $b),`(λc=>c=$a\/c=$b),`(Cj (mHj $a $b))]
def W_21(a b c d e f:W_T):List W_M:=[`(mM (λq=>$a $b)),`(by rw[$a:term,mJ $b];rfl),`(Atc.mpr $a),`(AsI _ $a),`($a->Hp->Prop),`(by rw[<-$a];exact $b $c),`($a e.symm),`(mB ($a,u,)),`(mY ($a×$b)),`(mC s4 $a),`(AE DA $a Ar),`($a $b cM (λb A outer s H vs Q E c h=>?_)),`(Ao (A3 $a)),`(AE HC $a $b),`(qH (mX $a $b) $c),`(Ab.Aa (o:= .Ac $a) $b),`(mC s5 $a),`(mB (.dT $a)),`(r.contains $a),`((mC $a $b).trans $c),`(mC $a ok.at_),`(mCR 44 $a),`(AsL.mp $a $b $c),`(AN p b $a),`($a<m.feet.length),`(mZ ($a $b ?_))]
def W_22(a b c d e f:W_T):List W_M:=[`(A8 K $a a xs),`(V.str $a),`(.cons $a .nil),`(scope.names.lookup $a),`(nK ⟨#[$a]⟩),`((apos.endLine==$a)=true),`(by rw[$a $b];exact $c),`(L.drop $a),`($a j v e),`(Bh $a rfl T.B7 B8 (mT $b)),`(DE t H $a $b),`(oN (Asr $a) $b),`(by rw[<-$a];exact(nS $b).1),`(mH (nD $a $b)),`((nN $a $b) p=some $b),`(BK N Aq $a),`(ArZ ($a hit.typeIs (Asg ?_))),`(qH (mP $a) $b),`(oI [mF $a,mF $b]),`(.Al [mF $a,mF $b]),`($a=0\/$a=1),`(fs.un _ $a),`((Aa $a $b $c) $b=some $c),`($a $b _ (mJ $c)),`(digits $a),`(f.take $a)]
def W_23(a b c d e f:W_T):List W_M:=[`(P.testBit $a),`(mH ⟨$a,$b⟩),`(mI ⟨$a,$b⟩),`(Paired.length $a),`(wpAny $a A $b $c E $d),`(by rw[$a:term];exact $b $c),`(J.stop $a H),`(mAt [$a]=[(false,oU $a,)]),`(ha pos pins s σ $a _ $b h),`(j.Av $a _ $b),`(eval $a env),`(mDH pos $a),`(IsPart $a $b),`(Bc $a $b=none),`(E8 $a a y o),`(by show BV $a (A0 $b) _ _=true;decide+kernel),`(hy _ ($a $b)),`(Au (B:=False) $a),`(oA Az $a),`(uS $a Ar),`(oA Au $a),`($a _ (nD $b $c)),`(DY ($a $b) E5),`(tV (iv $a)),`($a (Aq:Int)),`(later $a)]
def W_24(a b c d e f:W_T):List W_M:=[`(goOn N $a r),`((mP $a,Af)),`(⟨_,rfl,p,_,_,_,rfl,Af,$a,$b,(by show $c<1000;decide),?_⟩),`(ED $a $b u rest room $c),`(Fr (λc=>c=$a) $b $c),`(CY b $a AT),`(rH EL (nN $a $b)),`(Wk st $a),`(AM (mAc $a)),`(AtB List.length $a),`(r.testBit $a),`(Ass $a (As5 aA aA)),`(by rw[$a:term,$b:term];rfl),`(mZ ($a (Asg $b))),`($a (·.1)),`($a<s.heap.objs.size),`(Heap.SameBut $a s.heap h'),`(mB (.bl $a)),`(j.list $a),`(assignEach $a X.env),`(.Call (.Name $a p) $b [] pos),`(mQ4 K mF $a),`(Auu.mpr $a),`(vI Str $a),`(nE $a D (acc++[y])),`(mO $a $b rfl)]
def W_25(a b c d e f:W_T):List W_M:=[`($a "enumerate"),`(s1.heap.objs.size+$a),`(l.take $a),`(Builtin.Str.strKind $a),`(nG $a (oL Da)),`(Ba $a $b $c (by with_unfolding_all rfl)),`(AF $a $b $c (λ_ _=>rfl)),`(oL (nT $a $b)),`(AF ($a (K:=K) rfl) (pv $b) Ar (λ_ _=>rfl)),`(by rw[<-$a,Af]),`($a<=1000),`((2,xR $a)),`($a $b=some (pT $c)),`(AE FI $a Ar),`(nV (sv $a)),`(by have:=$a;omega),`(Ab.Aa $a _ _ $b),`(AE G7 $a aX),`(D4 $a st r $b),`($a c o hc e),`(e.J7 $a $b hb),`(AO t X $a $b n $c),`(C6 t X H o $a c),`(mEH X.F $a $b),`($a (Be $b 5)),`(Atb.mp $a)]
def W_26(a b c d e f:W_T):List W_M:=[`(λz hz=>?_),`(mH e),`(pA hx),`(mPk i),`(a&&&b),`(1<<<aU.length),`(uK h),`(cT.headD 0),`(D8 l i),`(Asg hq),`(Ar_ (λq=>by cases q)),`(.dict es ep),`(Ase e),`(Gl X x),`(nR b tb),`(model P w),`(qJ a),`(sS Pv),`(aK ->Hp->VK->Prop),`([x,y]),`(mK hk),`(mM hk),`(mAt (e::es)=(false,oU e,)::starEach es X.env),`(kV k),`(zB 1),`(AtU _ _),`([aI,bW]),`(mk l),`((0,5)),`((16,5)),`(uD pv 0),`(tC (mE 1)),`(oF aQ),`(qC aX),`(mX s2 s3),`(mF sa),`(m.feet.drop (i+1)),`(Kgz1.bad aBR),`(qZ 2),`(pA ha),`(oP st.length),`(t.map (Wk st)),`(mW room),`(h.kn q hq),`(X.E.tw p),`(oF Ar),`(pv 9),`(Bu X.E.S i+u i),`(vI Nat Bool),`(mR o),`(mY aCd),`(meA bnd1),`(.int (((An m).length+1:Nat):Int)),`(Ge p c),`(vI Sound Nat),`(oP n),`(Fe n),`(mAd w),`(Gh T a x),`(size+1),`((0,2)),`(l.map (·.1))]
def W_27(a b c d e f:W_T):List W_M:=[`(by simp only[Ky.depth] at hd;omega),`(mBM n),`(.seq its.toArray n),`(mDj a),`(some .cell),`(sI H' s'),`(t σ H Q),`(.bl false),`(λb hb=>(nJ hf).1),`(2 ^ 62),`(vs++dvs),`(A4 X.prog X.w X.K X.mg X.base CX k f fd ps sp),`(GX X.K fd ps ds),`(AB dvs ds),`(Kg CX X E),`(PA X gP t),`(j.Av.BC aF),`(mS aA),`(b::r),`((t,2)),`(AB.Lq r),`(nV acc),`(X.E7 s3 M scope ce B),`(atKey xs k),`(.dK kvs),`(mAw Jp),`(λz=>hb (by simp[z])),`(["word","at"]),`(["numbers"]),`(qP "places"),`(mQK "knot"),`(qP "knot"),`(sM "beginning" "number"),`(qP "beginning"),`(BA aA),`((ss.take i).map BO),`(BQ.tail.map Wd.vf),`(pW cW e),`(mT aL),`(oL aW),`(oL Dw),`(mF8 mW),`(F5 ab),`(Kgz1.syllables l),`(mE (c:Int)),`(mA3 mE),`(mGt j),`(mLu pl d.2 d.1),`((pl>>>1)&&&T.inner),`(sh.A2.getLast?.getD 0),`(AH S j),`(Dl S W l),`(aB ->Prop),`(Fs st r),`((0,h)),`(knd.draws k),`(mH (W:Int)),`(nX c u),`(Ase hx'),`(oP j),`(iv S.A2.dropLast),`(Aa (mQY Int mF) s (.Ac [mF x]))]
def W_28(a b c d e f:W_T):List W_M:=[`(mQ2 Aj m Nat),`(aJ.B2 2),`(Z.so k),`(aB ×Nat),`(C++[b]),`(Gg sh.A2.length),`(s.map number),`(mAf DI),`(CD i w),`(mOn c),`(Builtin.Tuple.tupleHashOf (Ky.GQ w l)),`(Auq _ rfl),`(oG Value),`(∀b xs,H b=oI xs->H' b=oI xs),`(HZ P w),`(X.N[i]? =aY),`(.Name x pos),`(oQ he j),`(Nat->St->Hp->Prop),`(mR hu),`(Nat->Nat->St->Hp->Prop),`(W i m σ H),`(rK kvs),`(show False from r),`(yS hq),`(j.tuple hq),`(vR kvs),`(typeOf (.builtin id)=pure (.type "method_descriptor")),`(EM X id r),`([nC a]),`(notedBy bC A env λe s'=>R (.error e) s'),`(mMH tg),`(Dy kvs k v),`(KT H kvs xs),`(mAw Kk),`(As_ ?_ (by size_fits)),`(Array DictEntry),`(mE (i:Nat)),`(mQJ 0 lo),`(["self","rest","used","room"]),`(qP "states"),`(["self","group","follower","rest","used","room"]),`(["self","places","length","ends_word"]),`(["self","measure","texts","most"]),`(qP "after"),`(mE 4),`([WData.list (ns.map WData.int)]),`((29,29)),`(mB1 mE),`(D8 aV i),`(Cg 0 aV),`(oL aQ),`(mB1 mW),`(Addr->Prop),`(pF a.map),`(mY Kgz1.Sound),`(qC aL),`(uD pv 2),`(Bo 5),`(mF8 mE),`(uD qK 0),`(mk x)]
def W_29(a b c d e f:W_T):List W_M:=[`(oZ oK x),`(Nat->Bool->Nat),`(qZ 5),`(s1.seq f),`(FV false l),`(qK 6),`(AtZ aA),`(CP q),`(λ_=>0),`(DS u i),`(pV vS u),`(mF z),`(mF e),`(Cc E.S q),`(λ_ _ _=>rfl),`(Kt×Addr),`(tK kvs),`(Ah this),`(mA6 j),`(λz=>by cases z),`(Aa (mCA H 0) X.D (.Bw od (.dT f))),`(Aa (Aa (nE I O []) U (.dK [])) a1 (.Ag t.BD m (Dm M p AA C O U))),`(mE room),`(pT (Be (λ_=>0) 4)),`(nF es.map),`(b+U.length),`(nN N u),`(pv 10),`(Aa (Aa G o (.Al [mE ((Do m j).ends:Int),mE (N:Int)])) d (.Ac (nF I.map++[mF o]))),`(cQ+i),`(JK st),`(Rw Z r),`(Kr H H'),`(fnA bnd3),`(meA bnd5),`(isPair c d),`(mY (Bool× aB)),`(aB × aB),`(mCR 124 f),`(parts c b w),`(w++[d]),`(s.drop a),`(E2 m),`(oP w.length),`(aAf - 1),`(aU[q]? =bT),`(b.drop a),`(At0.mpr aA),`(a+w.length),`(s.headD 0),`(Ky.C2 l),`(.int i t),`(i==j),`(nX a o),`(AB xs its),`(oA mB v),`(j.base.free b o e n hx),`(X.fn x=true\/X.env.scope.names.lookup x=some .local),`(mBA j H'),`(X.Ig E),`(V->V->Hp->VK->Prop),`(pyNext iZ)]
def W_30(a b c d e f:W_T):List W_M:=[`((2,2)),`(B.ok.hd hc),`(oQ j n),`(mFe H b),`(mMf H),`(mDy H p),`(mQQ GR),`(K.In s.heap),`(GV X.K C),`(ps.zip us),`(us++ds),`(Dj k X.A),`(aYn=false),`(mY Keyword),`(start N vs),`(Dx xs lo hi),`(E6 x),`(tT "len"),`(mY Bool),`(own.map (·.2)),`(mMk Nat),`(.dT kvs),`(MK n),`(mFn b n),`(nR o td),`(D.ok.hd hc),`(sZ eQ),`(jF ≠[]),`(["calls"]),`(Jg i.heap H),`(K w.params),`(sv ss),`(mE (x:Int)),`(qC aQ),`(.Ac []),`(DK aBJ),`(Au (8,0,5)),`(aBK++[0]),`(iv sh.A2),`(iv st.1),`(uB 44 c0),`(uE 4),`(a+J.2),`(qA r),`(nF ds.map),`(mEa (.speak l.length l)),`(Ao aAT),`(mAX pI n),`(f.As bB),`(mY (Cl× aK)),`(Aa (nN M (mAX nB n2)) N (pT ns)),`(C5 l),`(KG S i M),`(dH+u i),`(Dr [] a),`(L++aJE),`(∀k∈r,k<N),`(AsI _ hx),`(r++t),`(mQL mF it),`(Ao (GW aL aQ FX)),`(nF fs.map)]
def W_31(a b c d e f:W_T):List W_M:=[`(Asl hx),`(mRd m d),`(Ci o c (sR c)),`(Kn.FA h r),`(aWo.testBit p),`(.Al [mE (κ.m:Int),mF d]),`(Aa (Aa (Aa (Aa (qL B dx a) a (nB t.BD [])) N (.Ac [])) O (.dK [])) a (nB t.BD (Dm κ d AA .Ax N O))),`(mEH F k k'),`(FB fl),`(BE l S.Bk),`(gD gs),`(Eu t X κ n o H kvs D j b Hj oj kj gs),`(pU kvs),`(mCA H1 (n1+1)),`(e.As aA),`(Ad aW (pS 3 4)),`(Ab Hs H),`(.Ac [cB]),`(B4 f0 f1 r g1),`(nN y aOH),`(mO i w j),`(CD i x),`(ET H es l),`(D++(CD i x).take j),`(Bd j f),`(Aa d9 U aCa),`(nB t.A_ [("half",aA0,),("cuts",mBh Aj m Nat,),("inner",mE ((aJ.inner:Nat):Int),),("doors",mF d,),("fitting",mF U,)]),`(nB t.A_ [("half",aA0,),("cuts",mBh Aj m Nat,),("inner",mE ((aJ.inner:Nat):Int),),("doors",mF d,),("fitting",mF U,),("first",mE ((aJ.first:Nat):Int),)]),`(nB t.A_ aXG),`(mBe f j),`(Aa B N (.dT [])),`(nN d2 aJy),`(CT Y (Ew U st A7 k)),`(r.length<ms),`(PH N ms L r u h a b),`(uF A7),`(nE G J [mE (k:Int)]),`(qM H1 m),`(isVowel c),`(Gf st.1 sh.Bk),`(words l),`(by simp[b]),`(mCR 59 b),`(EF n b),`(mAc f.map),`(i<l.length),`(f.map EH),`(mJ5 cw r),`(mQe b),`(El m.cuts),`(Br i b r),`(DI i b r),`((c.foot,c.way,kZ)),`(DJ aJ.AW (aAf - 1)),`(KZ m.feet 0 c (Asl hc)),`(mLF Am),`(mR hc),`(aYw.take 2),`(∀s∈ss,GM s),`(by simp only[Ky.C2] at hd2;omega),`(mEU Bool),`(mY (Ky×Addr×Value))]
def W_32(a b c d e f:W_T):List W_M:=[`(λ_ q=>q),`(Jg h H),`(some .free),`(pQ j.ok.bs),`(j.cell x c e),`(Hu X.stack),`(mLA J),`(j.Gn x c e),`(λ_ _ e=>e),`(tC .Ax),`(.bl true),`(AtT _),`(mIW it a),`(mMU o d),`(GU K a),`(h.IsTupleIter it a i),`(Jl lo n),`(∀x,foldedSetIterable iter X.env x=pure x),`(CU r ta tb),`(binaryOp .BitAnd),`(mIk op r),`(Cn f v fs),`(AS K C f),`(mKg e),`(s.heap.push PySem.W.emptyDict),`(mMp mF us),`(yX Value),`(yU x gP),`(Str->oG NameKind),`(Asg (0,Asg h)),`(by with_unfolding_all rfl),`(pX ys.length),`(qU e),`(compareOp .In),`(PlainAttrs T),`(λx=> !x.1),`(if([]:mY Keyword).isEmpty then 0 else 1),`(qT As2),`(mR hm),`(mIG mIJ),`(OP X.N X.env.scope scope own),`(G.cells.lookup y),`(AsQ e),`(qM H2 D),`(kvs.any λj=>decide (j.1=k)),`(h1.symm.trans e),`(h1.trans z),`(mQQ HZ),`(OW lo c n),`(λi h=>h.IsStrIter it ty x t i),`(o.data= aAl),`(mB (k,v,)),`(sW o aBy),`(b=e\/b=it),`(ys.map V.str),`((58,29)),`(mQJ z.length hi),`(Array aCm),`(A0 st),`(["sound"]),`(["vowel"]),`(["sounds"])]
def W_33(a b c d e f:W_T):List W_M:=[`(["consonants"]),`(["weight","lead"]),`(["syllables"]),`(["one","other"]),`(mQN "lack"),`(mQN "finish"),`(["numbers","size"]),`(["measure","text"]),`(["most","measure_numbers","after","stock"]),`(["call","numbers","lists"]),`(sM "feet" "cuts"),`(["self","is_finish","words","rest","room"]),`(sM "cost" "followers"),`(qP "words"),`(["self","mode","state","fewest"]),`(qP "note"),`(mQO "outlook"),`(mQO "most"),`(sM "bit" "rest"),`(sM "word" "cost"),`(["self","row","used","states","room"]),`(sM "measure" "syllables"),`(["self","foot","way","at","met","later"]),`(qP "numbers"),`([nK "ae",nK "au",nK "oe",nK "eu"]),`([nK "x",nK "z"]),`([nK "b",nK "c",nK "d",nK "f",nK "g",nK "p",nK "t"]),`([nK "l",nK "r"]),`(mAI h.Ns mg),`(Ry l c k),`(mT bF),`(G o s2),`(ns.map λn=>mk [n.toNat]),`(GO aV i),`(sv (r++[z])),`(by decide+kernel),`(nF f.map),`(e▸hb),`(yZ x y),`(EI lA),`(nw H p H'),`((8,5)),`(mAP aV),`(nT af ag),`(tZ Ar),`(mE (wd.vf:Int)),`(qM H D),`(oX (sh.A2.length - 1) 0),`(!(iv st.1).isEmpty),`(st.1.dropLast.map BB),`(pR s1 s2 s3),`(mAU bQ),`((0,30,cD)),`([aCL,wE c]),`(pS 2 3),`(oL Ar),`(if m.cuts=[] then[V.bl true] else[V.bl false,V.bl true]),`(oF cJ),`(Kgz1.scans (E2 m) aBR),`(mJN d.map),`(mAX nB (n+1)),`(mBM n')]
def W_34(a b c d e f:W_T):List W_M:=[`(n+1+x.length),`((0,30,Au ?_)),`(N 0 d rfl),`(mEb (·|||·)),`(Dt T pl n g),`(∀s∈a,EB s),`(hs sh aC),`(pH hs s x),`(∀s∈r,EB s),`(sh::r),`(CQ T w P sh),`(a.sh (Cb q)),`(a.sh i),`(Dl S U u),`(Lk S C l r c),`(pre++[k]),`(∀k∈a,k<N),`(Dr pre a),`(GF m.feet),`(Oa st A7 S so),`(mM (by exact Ast)),`(oA ArZ (AvW ?_)),`(Shared.heap (hp,g,d,tk,os)),`(IQ s.heap d es ep),`((21,4)),`(mE (g:Int)),`(oF eU),`(mE (κ.m:Int)),`(oF OT),`(Aa z T0 (.Al [])),`(∀κ a,R κ a->R' κ a),`(.inr ?_),`(mBz z Af),`(mE (M:Int)),`(tH mH p),`(iv (Be f n)),`(u&&&mEp j q),`(λ_=>aEa),`(rP j q u),`(nE N D (done++[mF O])),`(g++[(eW,aI,)]),`(λc u e=>?_),`(uE 2),`(aDs.testBit κ.p),`(vI Kt Addr),`(mO j B I[i]),`(iv S.A2),`(PP _ _ _),`(C.map (·.x)),`(n<300000),`(mCt (n+1)),`(Aa (mCA H (n+1)) fa (.Ac (fs++[mF x]))),`(mBz q Af),`(Dl X.E.S used u),`(Bv u X.E.S.length),`(D6 X.E κ),`(b.As aA),`(Atj.mp hx),`(uY f l),`(.Ac [mKQ mE b Int]),`(mHg H g c),`(mQ7 (FC b a A st))]
def W_35(a b c d e f:W_T):List W_M:=[`(nF O.map),`(U++[lY]),`(nN (Aa Y r aOM) u),`(mJH G I),`(Ee m j),`(qJ SL),`(GH hj),`(nB t.A_ [("half",aA0,)]),`(nB t.A_ [("half",aA0,),("cuts",mBh Aj m Nat,),("inner",mE ((aJ.inner:Nat):Int),)]),`(qM bs d),`(nB t.A_ [("half",aA0,),("cuts",mBh Aj m Nat,),("inner",mE ((aJ.inner:Nat):Int),),("doors",mF d,)]),`(AuL aA aA),`(.Al [mF f[j],mE (N:Int)]),`(mRg Aa),`(CY cQ iN.length AT),`(aU.length<=400),`(aCb.testBit p),`(mE (ms:Int)),`(Qg st ms A7),`(Aa (Aa B b (.Al (iv (wd.sh i).A2))) e (.Al [mE ((wd.sh i).Bk:Int),mF b])),`(Nat->Qh),`(Od K t.CM),`(λk hk=>?_),`(mRf Int),`(nB t.Cp [("most",mE (ms:Int),),("room",mE 256,),("sorts",mF SA,)]),`(BK N ms L),`(zS aJ 0),`(mEJ x),`(Tl _ _),`(.Ag t.Dd db (EV m 0 sa 256 0)),`([(r,u+1,)]),`(.Ag t.Dd I (EV az used sa (Ex Z r) (u+1))),`(nB t.CB [("stock",mF SP,)]),`(nB t.CB (mLs mF)),`(Aa (Aa (qL N dF F) F (.Ag t.AV dF [])) D (.dT [])),`(.Ag t.AV dF [("places",mF PA,),("sorts",mF SA,),("views",mF VA,),("knots",mF D,),("kept",mE 0,)]),`(O0 p c),`(aJK.mpr q),`(aHX++[2]),`(y.2.2 != x.2.2),`(A++s.map λx=>(x,k,)),`(λc=>c==45||c==117),`(λc=>mEO c),`(aDM.mapM foot),`(f.getD j []),`((HW m.feet t).take c.1),`(l.zipIdx n),`(mJ5 Bz (f::r)),`(aYm.map (w.2::·)),`(vX cs),`(c.way.getD c.place 0),`(DJ aJ.AW kY),`(K_ m Du q),`(s.testBit q),`(c.foot+1),`(c.way.length - c.place),`(m.cuts.any λx=>x.1==c.foot&&decide (c.place+1<=x.2)&&decide (x.2<c.way.length)&&decide (4<=b.getD (a+(x.2 - c.place)) 0)),`(Am||mBp w),`(s++[.vowel g]),`(s++[.cons c]),`(Value.bool b),`(eqBool u v)]
def W_36(a b c d e f:W_T):List W_M:=[`(xs.size==ys.size),`(vI κ Value),`(PySem.W.instObj C dx),`(EJ (nY f) (mA f)),`(oE "range"),`(e=x\/H e=mBu x),`(∃u,qG e=aM),`(a.free c j q n hx),`(he (hx b z)),`(∀b∈ch,(b∈X.ex\/X.EK.heap.objs.size<=b)/\b≠X.env.locals/\(∀x c,sF x=mB c->c≠b)/\∀p∈X.pn++pins,p.1≠b),`(λx c e=>?_),`(λz=>hc (by simp[z])),`(λm hm=>?_),`(λb u e=>?_),`(j.Av b u e),`(λc v hc q=>k c v ?_ q),`(σ.set i bJ),`(λy c e=>?_),`(hs.2 b (mC1 e B.ok.above)),`(hs.2 b (mC1 e (B.ok.O7 x c U hc))),`(.Compare a [op] [b] pos),`((j,H',z.JZ,q)),`((σ,H,j,h)),`(mFw o i),`(.Name x pos'),`(tn i s.heap),`(∃xs,mDy H1 a),`(z.Hx aF aK8),`(hi - lo),`(Gl X "range"),`(tS "range"),`(∀b∈j,H' b=none),`(rV (rV (Uh hb e))),`(V->Hp->VK->Prop),`(TP X pins σ Q),`(oQ ha n),`(wpAny bM X.A (f (.int i t) (.int j u)) Q E s),`(binaryOp .Add),`(mBG (i+j)),`(mBG (i - j)),`(rU λi=> mE (-i)),`(mO H j q),`(PySem.W.lookIn name od),`(PySem.W.hasDictIn K C),`(PySem.W.makesIn K C),`(yV "__init__"),`(aGy.push aKY),`(mRi k x),`(Cn f y fs),`(λg hg=>?_),`(PySem.W.instObj C s.heap.objs.size),`(λb u q=>pK q),`(λ_=>none),`(mFp e pos),`(nR value tv),`(B.Av.BC aF),`((us,[])),`(mB (tT id)),`(if v<0 then(v+(n:Int)).toNat else min v.toNat n),`((i:Int)+(m:Int)*1),`(z.Av.BC aF),`(xs++[v])]
def W_37(a b c d e f:W_T):List W_M:=[`(sliceBounds lo hi none n),`(SeqAt.EqAt.same _),`(by simp<;>omega),`(aYu.all aTr),`(acc++its),`(λ_ _ q=>pK q),`(∀b o,nU b=aH ->qG b=aH),`(j.ok.hd hc),`(aYs.getD 0),`(DZ cells names acc),`(own.map (·.1)),`(DZ X.env.cells scope.names []),`(λb o e hb=>?_),`(oA mI rfl),`(λ_ _=>False),`(mJx H1 D),`(∀b∈B,H' b=none),`(.Name y py),`(mAD e z.symm),`(Dy kvs k y),`(nX d (.Bw od u)),`(λb o e=>?_),`((142,q)),`(lo+(i:Nat)*c),`(pG (mDj d)),`((i:Int)<0),`(mZ (wpAny_handled ?_)),`(((AtD ..).extBut.push _).push _),`(mAF aa tpos),`((BM,k e aC _ he)),`(mDG [aCL,x]),`(Gl X "enumerate"),`(yU "enumerate" [e]),`([zB 1,s1.heap.objs.size]),`(Ae K H b ys),`([z,TI,TO,i1,j]),`(Gl X "zip"),`(pre S (c::r)),`(acc++[c]),`(strValues l),`(.Pass (134,60)),`(Or.inl rfl),`(["numbers","signs"]),`(mQP "text"),`(mQP "texts"),`(["measure"]),`(["texts","most"]),`(["measure","words","most"]),`(["word","cost"]),`(["measure_numbers","line"]),`(["k","measure_numbers","line"]),`(["row","stock_size","most"]),`(qP "sounds"),`(qP "text"),`(mQK "states"),`(sM "mode" "state"),`(sM "knot" "note"),`(qP "later"),`(["self","finishing","led_places","shape","later"]),`(sM "finishing" "led_places"),`(["self","ways","cut_places","begin"]),`(qP "measure")]
def W_38(a b c d e f:W_T):List W_M:=[`(sM "state" "shape"),`(sM "way" "at"),`(["self","foot","way","at"]),`(sM "foot" "later"),`(.seq vs.toArray),`(∀z∈ns,0<=z),`(mDI N "__eq__"),`(mDI N "__ne__"),`([("ae":Str),"au","oe","eu"]),`((mAJ i).take 2),`(wJ HB aL),`(wJ Rb aL),`(-(1:Int)),`((0,k a H fA ?_)),`(mQ (x:Int)),`(mQ (y:Int)),`((0,k)),`(nT ah ai),`(z.headD 0),`((_,0)),`(nF pt.map),`(xW Bo 2),`(Kgz1.parts c b w),`(λa ha=>?_),`(parts.filter λp=> !p.isEmpty),`(nF c.tail.map),`(λf hf=>?_),`(by simp[hx]),`(1<=sh.A2.length),`(Kgz1.cut s),`((Kgz1.words l).map (Kgz1.sounds 0)),`(nT ai aj),`(u.take i),`(sS u.take),`(ws.map Eh),`(mGd B I),`(λx=>(EF n x).isSome),`(nT an ao),`(mGd H1 s1),`(mAF aa ab),`(w.getD j 0),`(mW (i:Nat)),`(m.cuts.take j),`(uA pc hj),`(pR s2 s3 s4),`(zI B9 1),`(λaa A outer s H vs Q E d h=>?_),`(nN N aMW),`(nB t.Dq aUH),`(Ru rfl T.Ma (mT aX)),`(zI B9 6),`(qQ cC gJ),`(Aa I D (.Ac (iv tk++[mQ (M:Int)]))),`(K8.any λc=>(c:Int)==(n:Int)),`(HJ l= .str (mk l)),`((16,Au (0,90,λD G=>k D _ (oR C G) (C.free G) Af))),`(mQM d.length d),`((16,Au (0,90,λD y=>k D _ (oR v y) (v.free y) Af))),`(∀b o,b≠p->H b=aH ->H' b=aH),`(GW aL Ar Jn),`(CJ a (n+1)),`(mO p ns xs)]
def W_39(a b c d e f:W_T):List W_M:=[`(oZ cv.map (·.1)),`(∀c∈cv,c.1.Ok c.2/\c.2.length<=65),`(nN H1 aH8),`(KgzNeutral.step () (enc c)),`((0,5,Wq _,λq=>by cases q)),`(aYp.map V.int),`(mBO Fq xs),`(a.As bB),`(st.map FW),`(λi=>ns.getD i 0),`(by unfold Builtin.bitNot;omega),`(mEb (·&&&·)),`(pI t.A_ fs),`(mW (n:Int)),`(T.BP.foldl aBV aBW),`(∀z∈l,z≠0),`(sh.A2.dropLast.map BB),`(mQS Dt T P),`(mGw T.done 2),`(∀a∈q,DR a),`(Nat×Bool),`(GA T st.2 w l),`(∀a∈S,DR a),`(W9 T m w p hw),`(∀y,y<x->pM y=false),`(M.testBit x),`((λj=>?_,λx=>?_)),`(Ch M U),`(WE a b _),`(l i<=u i+1),`(Mm N n _ x h),`(before (r++k::a)),`(a.length<=Aq),`(CP (r.map (Wk st))),`(Kgz1.syllables aB1),`(Cq 4 aNH),`(A.erase x),`(AH S (so k)),`(∀k∈t,k<st.length),`(t.map so),`(Ec b h it a i),`(oE "StopIteration"),`(.bool false),`(oA pK eQ),`([z,TI,TO,d,e]),`(wpAny_loadPart' f),`(IQ h d es ep),`(Builtin.Dict_items.ownsTuple "dict_valueiterator"),`(storedH_new m),`(pW l L),`([s1.heap.objs.size]),`(λd A outer s H vs Q E f h=>?_),`(mW (r:Int)),`(by rw[e,Af] at j;cases j),`(.Ac (ys++[cS])),`(∀i∈q,i<E.S.length),`(sC a.own),`(nE N D l),`(r≠D/\H r=none),`(1<<<κ.p),`(mKx Hf[j]),`(λr=>(mA6 r).testBit κ.p)]
def W_40(a b c d e f:W_T):List W_M:=[`(mCH s2 sK f),`(WZ c d e P1 q.1),`(nO (g1.free ae af).1),`(mN (Y.free bh bm).1),`(bn.trans Y),`(Cc X.E.S q),`(Bu S S.length),`((EQ c s0 s1,x,dx,L,so,60,[],(c,fl,[]),s0,s1)),`(Aa (Aa Hj g.so (.Ac (iv g.ms++[mE (M:Int)]))) g.x aWL),`(C.filter λg=> !g.G.fl.isEmpty),`(C.map (·.so)),`(.Al [mE (lW.Bl:Int),mF R]),`(mC g'.rg rg),`(mCA H (n+1)),`(Og X.E κ v),`(mB (a,mB v.W,)),`(k _ _ _ f2 (g1.trans g2)),`(nT am an),`(D6 X.E p.1 J),`(B.W|||used),`(GC X.E G p.1 q),`(uX a n),`(uI r (Asr q)),`(.Al [mQ (j:Nat),uH mQ L j]),`(nE H N aB8),`(mRj Int b),`(HN t H q S i),`(∀i,i<S.length->DR cE.wd/\∀m,(cE.wd.sh m).A2.length<=1000),`(wT r g1),`(nP u bn bb),`(aYt.foldl (mJZ d) (D0 d m,λ_=>0,)),`(wT pi O),`(Fr.refl.Aa rfl),`(nB t.DD (mQ1 mF)),`(G.length - 1),`(l.map λx=> .Al [.Ce ⟨#[x.1]⟩,.num (if x.2 then 1 else 0)]),`(mQU (j:Nat)),`(Aa be e (.Al [V.str ⟨#[M]⟩,V.bl (g.contains j)])),`(.dK (CY b (U.length+1) (λz=>if z=U.length then y else AT z))),`(mGh (mT aXx)),`(nN aJj aJk),`(pT cT.tail),`(Ass (JQ _ _ _) (As5 aA ?_)),`(Qb m (j+1)),`(mW ((aU.length:Nat):Int)),`((mHM m).take j),`(uI (mC cd b7) cm),`(λi q x r C=>?_),`(hu aAm.symm),`([("half",aA0,),("cuts",mBh Aj m Nat,),("inner",mE ((aJ.inner:Nat):Int),),("doors",mF d,),("fitting",mF U,),("first",mE ((aJ.first:Nat):Int),),("done",mE ((aJ.done:Nat):Int),),("twins",mF Y,)]),`(ns.take ms),`(Hl H R wd c),`(wd.sh i),`(λi a e=>?_),`(λa b=>mLI b),`(Mu (h.ER k hk)),`(nB t.Cp (Mv ms SA OA)),`(.Al [mF ws[j],uH mE A7 j]),`(j<rs.length),`(wT ws[j] rs[j]),`(mAL Y.map),`(nN e1 aO4)]
def W_41(a b c d e f:W_T):List W_M:=[`(aAO.map λk=>aFG),`(∀k∈x,k<N),`(GK t Z H b r up a c sa a0 a1 used),`(∀m,(mBf m).1<=4),`(mC I hb.at_),`(.Ac (iv r++[mE (k:Int)])),`(uU hb.row),`(bs++[b]),`(bs.length=path.length),`(by have:=h.len;simp at this;exact this),`(pre++[x]),`(.Al [mE 4,mE ((Aj Z.m).first:Nat)]),`(.Al [mF s0,mF s0]),`(qL a1 db b),`(.Ag t.Dd bm aX8),`(by simpa[Dr] using h),`(mCg 12 r),`(Au (90,λD B=>FN (-23) a1 I C rfl D B)),`(Jb (a.foldl CZ ([],[],))),`(c==120||c==122),`(∀x∈B,x.2.2=k),`((cR).1.map λc=>(c,k,)),`(mB (dI,[])),`(m.feet.map λf=>aFU),`((5,4,4)),`(Qq (by omega:4<=99)),`(∀x∈f,mEO x=true),`(if x.1=45 then 0 else 1),`(∀x∈l,f x=g x),`(a+w.1.length),`(x.1.getD x.2 []),`(Qu λc _=>by simp[O2,HW]),`(Bz cuts b r (i+1) aDW (Am||Ei cuts b i w a)),`(AM ((wZ j).map aFV)),`(f.zipIdx.take j),`(((P&&&jV)&&&T.cuts)<<<T.AW),`(mLu P d.2 d.1),`((P>>>1)&&&T.inner),`(mI (e,sE he,q)),`(mI (e,he,a,b)),`((4,5,5)),`(yZ x (g,i)),`((4,d,5,hp)),`(DJ aA7 ((1<<<size) - 1)),`((4,c,5,4,hp)),`(aJ.inner.testBit iT),`(show q<aU.length+1 by omega),`(aJ.AW=aU.length+1),`(ends k _ he q),`(x.2==c.place),`(List.length (List.drop kZ c.way)),`(by show c.way.length - kZ=n;omega),`(T9 m.feet 0 q c hc aA),`(by simp only[Ct,Bool.and_eq_true,decide_eq_true_eq] at o;exact o.1),`(TH b ok n (i+1) _ _ aA g hle),`(by unfold FF;simp),`(i+aAi.length),`(pO Au1 a Avk.lookup),`(mAj beq_builtin_none),`(wpAny_ret_mkInt ?_),`(wpAny_pyHash_str hq),`(pO Au1 f Avd.lookup)]
def W_42(a b c d e f:W_T):List W_M:=[`(by show A.units+1+n<cLine;omega),`(by simpa[Nat.add_assoc] using J),`(λe=>nomatch e),`((ob,hob,hcb,nb,hdb)),`(Sum.inl.inj q),`(mS (λq=>nomatch q)),`(PySem.Within mA (fs.map (·.1))),`(mB (.Lb (ps++more))),`(a.there c j q hx),`(k b u (hb b n) q),`(Addr×Obj),`(s.heap.Ns X.env.locals m),`(λb o e n hb hx=>?_),`(λb o e n hx=>?_),`(j.base.Gk b xs e),`(mLA j.base.there),`(j.base.Gm b ps e),`(λ_ _ _ e=>e),`(λb ps e=>(#[],by rw[e];simp)),`((173,173,B.base.free,λb o e hx=>?_,B.base.Gk,B.base.F1,B.base.Gm)),`(λj y v' J L e3=>?_),`(mC5 B.base.keep),`(mLA B.base.there),`(aa j y v' J L e3),`(z.sameBut hs (Lh y c e)),`(mDH pos es),`(∀a s,Q a s->n a s),`(x==("__classdict__":Str)),`(xF j.ok.Jh j.mod.Jh.keeps j.bk),`(op==CmpOp.In),`(op==CmpOp.NotIn),`(A5 (ha pins s σ H Q n h) λc s1 e=>?_),`(A5 (oQ ha n) λc s1 (H1,q,z)=>?_),`(hb j pins s1 σ H1 Q q z),`(A5 (oQ ha j) λv s1 (x,H1,n,q,z)=>?_),`(A5 (oQ hc j) λd s1 (H1,n,q)=>?_),`(AB xs its.toList),`(by simpa using AtB Array.toList z),`((ok.mod,ok.kind,ok.Jh,ok.Ji,ok.above,ok.inj,ok.Lf,ok.O7,ok.hd,ok.frames,ok.Di,ok.QA,ok.bs,ok.Jj,ok.O8,ok.O9,ok.GS,ok.Lg)),`(PassesOwn bM X.A X.env X.xe),`((U,hm,L,M,O,Y)),`(∀b∈fp,aEd),`(letOwnedTupleGo tg iZ u),`(Ug X pins σ tg R),`(gQ /\xs[i]? =aY),`(gQ ->xs[i]? =aY),`(gQ /\xs.length<=i),`(wA H/\xs[i]? =aY),`(wA H->xs[i]? =aY),`(wA H/\xs.length<=i),`(B.DN (mDx L cF) f0 f1 D f4 G),`((2,B.DN (t':=s.toks) (mDx M hb) f0 f1 D f4 G)),`(wpAny_pyIter_rangeiter st h),`(∀i x σ H,xs[i]? =aY ->Pv i σ H->g x σ H λn H2=>tb {D with nx:=Pv (i+1),ct:=Pv (i+1),bk:=D.nx} n H2),`(hs i x σ _ (y xs q) p),`(∀q H',N q H'->∃z,z<m/\W (i+1) z q H'),`(mI (B,Pv (i+1),λq H' G=>(126,B,G),λx H' y=>?_)),`(mH (aF,hd σ H p)),`(Value->Value->Sem Value),`(Uj ha hb n h λv u s2 x y H2 z B D q=>j pins s2 σ H2 x y v u Q z B D q),`(mE8 mE kC q),`(intBits_le_64 h1 h2)]
def W_43(a b c d e f:W_T):List W_M:=[`(mDh (λ_ j=>0<j) (i%j)),`(binaryOp .RShift),`(binaryOp .BitOr),`(mBG (Builtin.bitOr i j)),`(binaryOp .BitXor),`(mBG (Builtin.bitXor i j)),`(inplaceOp .LShift),`(i*2 ^ j.toNat),`(inplaceOp .BitOr),`(inplaceOp .BitXor),`(mDi (decide (i<=j))),`(λx y H Q=>y= .Ax/\rG (decide (x= .Ax))),`(.Compare a [op,q] [b,c] pos),`(Y8 r B ta tb tc),`(j pins s2 σ H2 x y v u _ L I M N),`(hc pins s3 σ O _ U Y),`((y.length:Int) != 0),`((y.size:Int) != 0),`(yV "__setattr__"),`(oA mB (tT "object.__setattr__")),`(PySem.W.plainOver K C),`(mFm u Value.int i),`(mFm u Value.str x),`(if g=f then aM else mA g),`(.Ag C s.heap.objs.size []),`((by rw[<-r.length];exact z,5)),`(mF s1.heap.objs.size),`(λv H2=>v= .Ax/\Q cS H2),`(∀v,(x,v,)∉Kh),`(λb z=>nL z (G b)),`(Avv (x.above y c (AsQ h))),`(List.take_sublist _ _),`(PySem.W.fnOf name qual params body scope j kV doc pm an z ct),`(∀vs H Q E,mBJ H->vs.length=ps.length),`(AtW (Gp B hg hm j ?_ n q)),`(A5 (xI H B) λus s1 (vs,H1,D,G,I)=>hc pins s1 σ H1 vs us Q D G I),`(if v<0 then max (v+(n:Int)) 0 else min v (n:Int)),`(.seq aRM.toArray),`((items.toList.drop (AK items.size 0 lo)).take (mFx AK items.size)),`(((AK items.size 0 lo:Nat):Int)==0&&(1:Int)==1&&(mFx AK items.size)==items.size),`((4,4)),`(typeLookup (oE T) "__getitem__"),`(λb G q=>pK q),`(AsV (YR xs lo hi) hz),`(uQ id (v::us)),`(by rw[hj];simpa using J),`(EP X pins σ Q r s'),`(by rw[As2]<;>omega),`(.seq its'.toArray n'),`(nE H p (xs.set j v)),`(mAp hk (_,O,q)),`(compareOp .NotIn),`(.seq its.toArray),`(λb o e=>jA),`(((mO o e ex.1),λa B=>?_)),`(mO o e ex.2.1),`(Obj.mapSeq f),`(by rw[As2,As2];omega),`(bs.map Value.bool),`(mFF s.heap.IsList l),`(numsOf (intItems xs).toList=ns),`(uJ e hi.numsOf)]
def W_44(a b c d e f:W_T):List W_M:=[`(.fields #[eR,.int 0 0]),`(λn k c=>rfl),`(mI (sE h1,h2)),`(compEnvC scope (mLv cZ) s.heap.objs.size X.env),`(∀y∈scope.names,y.2= .free->∃c,sF y.1=some c),`(mH0 G.kindOf y),`(ok.free _ (AsQ Y.1) rfl),`(nL (show p∈([]:bA)++[] from hp) aC),`(.seq ([]:aT).toArray),`(compEnvC scope (mLv (s3.heap.objs.size+1)) s3.heap.objs.size X.env),`(compPost bM X.A X.xe use Qf (mF D) s3.heap.objs.size),`(Inv aBw [] (Co σ aEt) H' s'),`(by assumption),`(by simp[valueAt,List.find?_cons,e']),`(mMI kvs.map y),`(aBx.map (·.2)),`(by simp[atKey,List.find?_cons,e']),`(kvs.length<=sizeLine/\(mDj a)=false/\∃vs,hU /\h.DictOf (GR P w) a vs),`(nX a (.dK aCG)),`(nX a (.dT aCG)),`(kvs.length<sizeLine),`(by rw[l];exact lI),`(vC (Asr (AsP hb))),`((29,2)),`(.Dict [] [] pos),`(attributeBase o m X.env (oU o)),`(apos.endLine==cpos.line),`((dd.typeIs,λb q=>?_,hd)),`(mO n h1 h2.2.1),`(PySem.F.args_dict_get_2 _ _),`((_,dd.mapOf,h _ _ fO ?_)),`(PySem.F.args_dict_get_3 _ _ _),`(∀b o,b∉ch->nU b=aH ->qG b=aH),`(∀b u,H b=aM ->b∉ch),`(((nJ hf).2.2.2.1,(nJ hf).2.1,(nJ hf).2.2.2.2.1,(nJ hf).2.2.2.2.2)),`(λb o hc e=>(o,k b o hc e)),`(λb v _ q=>q),`(Ah (λz=>by rw[z,h] at q;cases q;exact B)),`(λc v _ q=>q),`([s.heap.objs.size]),`(λi _=>i<x.cps.size),`(λi _=>x.cps.size<=i),`(ty="str_ascii_iterator"\/ty="str_iterator"),`(mGE Builtin.Dict.showsAll d),`(∀h',Heap.ExtBut it s.heap h'->Q none {s with heap:=h'}),`(wQ wpAny_typeNameOfWhole_keyiter),`(wQ wpAny_typeNameOf_keyiter),`(qN (setField iZ 0 .none >>= _) s),`(mOz (by first|rfl|(simp only[firstArgMember];rfl))),`(sU (wpAny_throw ?_)),`(((i+1:Nat):Int)=(i:Int)+1),`(((.none,he),hit,Awq _)),`(∃x y,IsPair h TO x y),`(c=z\/c=TI\/c=TO\/c=i1\/c=j),`(λY=>hb (by simp[Y])),`([zB 4,zB 2,zB 3,s1.heap.objs.size,zB 1]),`(S.length - 1),`(if pre S (c::r)=true then acc::DC S (S.length - 1) [] r else DC S 0 (acc++[c]) r),`(List.length_pos_iff.mpr hy),`((4,5)),`(AsW (by rw[AtH]<;>omega)),`(fR.length - f)]
def W_45(a b c d e f:W_T):List W_M:=[`(y.cps.all (·<256)),`(λx xs H Q=>∃a b,x= nK a/\xs=[nK b]/\(b.length==0)=false/\a.length+2<=sizeLine/\UQ (Txt.split a b) H Q),`(mID X.K H aG2),`(ys.map (·.length)),`(xF AvH UP r),`(h _ s.toks rfl),`(∃a,x= nK a),`(λ_ e=>nomatch e),`(mFz z.cps.toList.drop z.length),`(mB ((HT.AK z.length 0 lo:Nat):Int)),`(mB ((max aCM aG4:Nat):Int)),`((1:Int)==1&&aTm.length==z.length),`(Builtin.Str.strSliceIndices (l.map (·.1)) (u.map (·.1)) 1 z.length),`(Lx K x qual st f fd),`([cB,cB,mE 2,mE 1]),`(∀b c,A b c->B b c),`(OF (EY i) (OF (EY j) Ue)),`(λx=>x.1.isSome),`(.call (mF g) ([aI],[])),`(λr I=>(∃v x H',r= .ok (.ret v)/\Cm P w H' I.heap/\AJ x v/\RR x H')/\OldK i.heap I.heap/\I.os=i.os/\AllBare I.gens),`(PySem.W.Frag->Sp),`(Codec.decAll RW.args args),`(λx y h=>by injection h),`(PySem.W.fnOf x qual (Jq st) (Im st) (A0 st) .none g doc pm an h ct),`(some (excClassObj nm q C N bs [oE "object"] a sn sub b col dd c d e f g newId)),`(PySem.W.nsOkIn K N),`(["numbers","signs","known","sign","found","number"]),`(C H1 CC.refl),`(mJy ns.all aV.any),`(mAQ CL (zG QY aL aQ) Ic),`(mLx mF t.LS T.AcE),`(mGf (i:Int) aCX),`(mAy "aeiouyAEIOUY"),`(nI Kgz1.isLetter c),`(Jk (D9 (Bb (Sd T) eF rfl T.Fi.m T.Fi.F.kp T.Fi.b .nil Ay (mT (zG Ln aL fB))))),`(vM (F4 U2 aL Gu (EZ fB))),`(k p _ (mP hp) (Ae.of ?_)),`(sv (q++[b]++[z])),`((77,0,mH i,30,Az cD)),`(∀b o,H b=aH ->b≠p->H' b=aH),`(["self","sounds","longs","runs","sound","is_heavy","run"]),`((q,b,by rw[h,Atk])),`(nB t.FR (Cn "lead" (mQ (Ez c1:Nat)) [])),`(∀b,b≠p->l b=H1 b),`(mB ((1:Nat):Int)),`(["text","words","part","followers","word","follower"]),`(((parts[i].length:Nat):Int) != 0),`(VH (λb hb=>hb) λb o hb e=>?_),`(by rw[AtI] at d⊢;omega),`(Kgz1.left aME),`(["text","weights","ends","shape","lengths","weight","length","end"]),`((2,aR,9,9)),`(!aEM.isEmpty),`(oX (((aEM.length:Nat):Int) - 1).toNat gI),`(aEN.length - 1),`(nE G S (iv st.1.dropLast)),`((16,8,5)),`(["most","number"]),`((λw hw=>?_,by rw[Ata,Ata,A];rfl)),`(by show X.A.units+1<cLine;omega),`((g,nH i,q,λj p x a b=>nH (u j p x a b))),`(["texts","foot_count","cuts","text"])]
def W_46(a b c d e f:W_T):List W_M:=[`(∀n∈ns,0<=n),`(["numbers","text","parts","feet","foot","cuts"]),`(qD ("foot",4,) AdD R3),`(nE ay l (sv m)),`(Az (mAK D (mN O))),`(mS (by omega:¬(16:Int)<(dG.length:Nat))),`(Az (0,D,2,(oM O),λbx bz=>?_)),`((3,mN h6,0,5)),`(mU (by omega:(16:Int)<(dG.length:Nat))),`(binaryOp .LShift),`(.dT [(ky,y,)]),`(∃BM,IsEnum h e it ((i:Nat):Int) BM),`(λi v=>∃c u,x.cps[i]? =mB c/\v= .str ⟨#[c]⟩ u),`(mQV Draws.strAscii x),`(mQV Draws.strWide x),`(.str ⟨#[c]⟩ G),`([bP,aDa,aBP,v1,v2,G]),`(Aa H1 L (mQU (i:Nat))),`(.Al [mQ (mGf (a:Int) x),V.bl mt]),`(["self","foot","later","counts","at","met","way"]),`(Ad bI (pS 5 2)),`(∀a Am,a<z->FU m Am->mCa G=mW (Jz m b N i a Am:Nat)),`(aUx.map λn=>((n:Nat):Int)),`(ws.map (Px m b N i z Am)),`(mM (λe=>by have:=(Sw e).1;omega)),`((j,by rw[Ah n];exact s,u)),`(Aa (Aa (nX r (.dT [])) v (.Al [mQ (g.length:Nat),V.bl true])) r (.dT [(EO g.length true,mQ 1,)])),`(BX aES 0=some (mF ds[0])),`(!m.cuts.isEmpty),`((138,29,2)),`(BX ((Es m).map V.bl) 0=some (.bl m.cuts.isEmpty)),`(mCd 0 V.bl m.cuts.isEmpty),`(VY (Asl (Sv m))),`(Cn "counts" (V.ref L) [("feet",mF f,),("cuts",mF c,),("syllables",mF sa,),("met_values",mF q,)]),`(some (.int ((cw m.cuts b aAK i a Am ws[M]:Nat):Int))),`(AM ((ws.take M).map (mGm cw aAK))),`(cw m.cuts b aAK i a Am ws[M]),`(Kgz1.isLetter n||n==32),`(n - l.length),`(if _ then _ else if _ then _ else _),`(mI (2,mp,2)),`(1<= dX.length/\ dX.length<=64),`((16,Az aAD)),`(mJM e.length e d),`(mQM e.length e),`(e _ _ (mBU h hp) h),`(if n<=r.length then mB (r.take n,r.drop n,) else none),`(by rw[e,Af] at f;cases f),`(a.out.take a.value.toNat),`(A4 P w K mg base A9 57 t.Jr t.R7 aHi (Wl K)),`(enc (mO c ns ls)),`(∀c∈cs,KgzNeutral.asked1 (enc c)=true),`(st.all FW&&st.all λx=>jI),`(["stock","word","texts"]),`(λaa A outer s H vs Q E a h=>?_),`(qD ("word",1,) Aeb R6),`(by unfold P6;rw[h,bS]),`(l.foldl PyProof.Rows.step_dedup acc),`(["row","stock_size","most","number"]),`(d.map λx=>decide (x<n)),`(mOe (0:Int) (b:Int)),`(Builtin.bitAnd (a:Int) aVb)]
def W_47(a b c d e f:W_T):List W_M:=[`(mEb (·^^^·)),`(mA3 Builtin.bitNot),`([mQ (T.F0:Nat),mQ (T.Ej:Nat),mQ (T.Ek:Nat)]),`([aS,mAZ mE,lP,.bl a]),`(Az (mG pc,2,5)),`(if g then Ch (pl&&&T.B2 n) T.cuts|||(((pl&&&T.B2 n)&&&T.cuts)<<<T.AW) else pl&&&T.B2 n),`((0,83,204,_,(1),29,(Y _,21),loop _ _ _ e)),`((0,63,194,nO z,Wy T n o,13,k)),`(Kgz2.okStock gU st.length Aq),`(l.getLast?.getD 0),`(KC T (if fC=4 then P else Dt T P (BB fC) true) sh.A2.dropLast),`(λb hb=>pH h b hb),`(GA T (λl=>if l=a then L l|||B else L l) w l),`(a.vf=m/\∃i,i<=1/\(IN T (later i) (a.sh i) w).testBit p=true),`(∀b∈q,b∈S),`(J6 S c n i _ k j (NX T w _ _ hw ((c a ha).sh i))),`(λq=>C q\/D q),`(λq=>∃a,q=i::a/\C a),`((oP N).filter λk=>decide (u<=k)&& !(vS k)),`(λk=>decide (u<=k)&&p k),`(λk=>decide (u+1<=k)&&p k),`(Kgz2.wordOf (gU.getD k [])),`(∀c∈a,c≠32),`(∀a∈q,a.CO.A2.length<=a.DF.A2.length),`(q.map λa=>a.CO.A2.length),`(fs.Pairwise (·<=·)),`(List.Perm.cons_inv d),`(hs.Pairwise (·>=·)),`(hs.map λx=> -x),`(vF As7 hp.trans (b.map _)),`((mA0 r.map)=(uF f).map λ(n:Nat)=>(n:Int)),`(∀k∈r++t,k<st.length),`(D4 T st q eV.vf),`(∀h' e,Heap.ExtBut it s.heap h'->(∃o,qG e=aH /\o.cls= oE "StopIteration")->E (mF e) {s with heap:=h'}),`(qN (newExc aNP [] >>= _) _),`((Obj.cls_mapFields ..).trans hc),`(show h.IsTuple a g from x),`(k _ h' s.toks hx (l,st.2.at λo e=>(m.2 a d).trans e) m),`(mZ (Ats hz rfl (x:= .bool false) rfl ?_)),`(mZ (wpAny_letGo cO)),`((_,e,29)),`(mKb "list_iterator"),`(λU=>hb (by simp[U])),`(ArZ (AuN (mGC hit.typeIs AtF (Atf AtF hit.typeIs Avt ?_ (Avp _))))),`(s.heap.DictOfH knd d xs),`(h'.DictOfH knd d (storedH xs k a x)),`(Obj.data_mapDictKeys hd _),`(Expr.Call (mA2 o "values") [] [] m),`(A.map (·.2)),`(∃a,x= aI /\(∃xs,wA H1)/\mAs GU),`(∀y,x<y->pM y=false),`(Bb (SN T) (f.As bB) rfl T.Fl.m T.Fl.F.kp T.Fl.b .nil Ay (mT aL)),`(∀x,pM x=true↔x∈j\/yK x=true),`(∀x,yK x=true->x∉j/\j.length<=x),`(λa ha c hc e=>?_),`(["bits","choices","bit","choice"]),`(nB t.FS (Of v)),`(mQR u.W u.r u.c),`((99,Ch v.W x,v.r+1,v.c+g)),`(oV (vK aX) (AE DA aX aW)),`((109,93,T.LU,2,8,109,93,T.LW,30,8,5)),`((true,v.W|||x,v.r+1,v.c+g))]
def W_48(a b c d e f:W_T):List W_M:=[`(nE H so (l++[aEG])),`(Aa (qM H b) c jE),`([aS,mE rest,tJ mE,aDw]),`(∀J n,C J n->R J H1),`((∃a,x= aI /\(∃xs,Ae K H1 a xs)/\∃n,C (Cf K a) n)\/(∃a,x= aI /\(∃xs,A8 K H1 a xs)/\∃n,C (GU K a) n)\/∃d o c,x= mF d/\H1 d=mB (.Bw o (.dK c))/\∃n,C (Lv d o c) n),`([bP,mW rest,tJ mW,aAQ,mG sv,mW (W:Int),v6]),`((3,ap,M)),`(oG (Addr×oG Nat)),`(eJ=aM /\o' c=none),`(PN t H o E R x G),`([mE (κ.w:Int),tH mE κ.p]),`(∀b v,H b=bJ ->Ci o c (sR c) b=o b),`((κ,a,e,ne,mKp k.ev (ev _))),`(m.k κ (uJ z hq)),`(X.E.T.B2 2),`(λr p=>if pl.testBit p then r|||1<<<E.tw p else r),`(Aa H1 a0 (wT G I)),`((bj,BL bb Y)),`((((Fu X.E aIK:Nat):Int)) != 0),`((D,8,Ab.Aa Y _ _ bc,BA aA,19,_,U,2,mC bp (mP Y),a1,a2,bq,br)),`(∀c u,H c=aM ->o' c=o c),`(vT BM h.f h.of),`(vT BM h.d h.od),`(["self","mode","state","key","seen","rest","view"]),`(["self","states","knots","mode","state","place"]),`(Aa f a0 (mKx v)),`((29,ca)),`(bw p ((bf.2 p).mpr hp)),`(BX (iv S.A2) (-1)=some (uH mE S.A2.getLast?.getD 0)),`(mW ((x:Nat):Int)),`(∃z∈fl,D6 X.E z.1 q),`(∀j∈q,j<X.E.S.length),`(q.length<=X.E.Aq),`(mKO (mEr i fY).2 (mEr i fY).1),`(w.free h.fo h.HP),`(gs.map (·.k)),`(.dT (gD gs++[(EQ c s0 s1,cS,)])),`(.Ag t.CH g.dx (Ft g.G.Bl g.fo g.so (g.W|||M))),`(Afk ok kb s1 (oD s3 U.c0) (oD s4 U.c1) q hq),`(["self","knot","groups","sort","states","shape","key","group"]),`([kR,mG a,mG D,mG q,mG R,none,mG U,none]),`((v,(mLz M).1,a2,Y)),`(I.free k.st k.He),`(Aa (mEu la (.dK (Dy ls jN (mF s)))) s (.Ac [mF x])),`(Ah (λq=>by rw[q,Af] at e;cases e)),`([kR,mG a,mG x,ai]),`(λb=>b=X.F\/∃κ,Rg f κ b),`(Ci G O (sR a1)),`(b7.free (L.free kn.st kn.He).1 (L.free kn.st kn.He).2),`(mQR v'.W v'.r v'.c),`([kP,aI,mA9 mE,tJ mE,aDw]),`(Aa (qL H dx x) x aV4),`(mH (2,5,λh=>by omega)),`(((Ch W aOt:Nat):Int) != 0),`((0,55)),`((_,S6 _,λq hq p B=>?_,λ_=>aR)),`(Au3 (λa b h=>by injection h)),`(by rw[e,Af] at o;cases o),`(∀x,x<n->f x=g x),`(G9 a later (F,L,) S),`(pT S.A2.dropLast),`(Cu (Bx aL T.Em.c T.Ku.h (Af1 T) bR T.Ku.b .nil Ay (oV (zI BH 2) (zI BH 3))))]
def W_49(a b c d e f:W_T):List W_M:=[`(by split<;>rfl),`(nE H1 VA [mF v]),`([bP,mG f,mG SA,xY mW]),`(tB (mP4 aAF)),`([bP,mW (Dg:Int),mG R]),`(qV (mHn b i)),`(mQ (((nC g::es).length:Nat):Int)),`(oI [wE x.1,.bl x.2]),`(["self","ways","cut_places","begin","known","way","rest","place","sign","bit"]),`(AE G7 Ar (AE DA bF aX)),`(nB t.CI (ES (KO (FC b g U kT) (1<<<(b+U.length)) (x.getD j 0==45) (decide (j+1=x.length)) (g.contains j)) r)),`(Fc g x (j+1)),`(b7.keep (cm _)),`((x.length - (j+1),4,j+1,R2,O,0,4,2,by rw[cf];exact a1,a2,dc)),`(["measure","stretches","begin","foot","ways","cut_places","cut","stretch"]),`(this m.feet.length aF),`(l.map λx:Nat=>(x:Int)),`(Co [a0,a1,a2,p,q,r,s,u,v,z,A] [4]),`(∀c,B c->H c=none\/H c=rM C),`(λj q f hq hf=>?_),`(Tj m aU.length b),`(["self","measure","stretches","size","stretch","behind_all","starts","later_starts","every","longs","bit"]),`(mQi (mT aON)),`(Dk rfl Ef.nd (BJ (K:=K) rfl (pv 2)) (BZ (own:=[("stretch",4,)]) (xP Qe Ly)) (λ_ _ _ _ _=>(oC 4 Ef.nd)) (λ_ _ _ _ _=>Cw) (λ_ _ _ _ _=>(qK 4))),`(Lr hu hM aDB gT),`(Aa (mK5 mE) ST (pT cT)),`(mGW (hO.ends:Int) (N:Int)),`(Aa aDC O (.Al [mE (((Do m j).ends<<<bX:Nat):Int),mE ((N<<<bX:Nat):Int)])),`(Aa aXB d (.Ac (nF I.map++[mF o]++[mF O]))),`(Vf.cellsFrom 0 (m.feet.take 0)),`(λhb ey ez=>?_),`(.Ag t.A_ dx aOX),`([("half",aA0,),("cuts",mBh Aj m Nat,),("inner",mE ((aJ.inner:Nat):Int),),("doors",mF d,),("fitting",mF U,),("first",mE ((aJ.first:Nat):Int),),("done",mE ((aJ.done:Nat):Int),)]),`((Ji _ aA,4)),`(mM (λz=>by have:=PZ z;rw[gr] at this;split at this<;>omega)),`(Kl (Xo (mk _)) aA),`(["texts","most","costs","text","highest"]),`(by rw[AsB];exact List.Perm.refl _),`(["measure","words","most","syllables_most","way","ways","fewest","word","count"]),`([mG mp,mG W,mW (Aq:Int),uH mW GF m.feet,none,none,mG S,none,mW (c:Int)]),`(r.Nodup->(∀k∈r,k<ws.length)->r.length<=Aq->AM (r.map λk=>(wd k).CO.A2.length)<=GF m.feet->r.length<=c),`(oI [aHT,aI,bW,aBS]),`(["word","cost","shapes","shape"]),`(pJ (λi=>if a=CT b i then 1 else 0)),`(λ_ _ _ _=>rfl),`((dx,gK.vf,sh,A7 j)),`([aS,mF mp,mF L,xY mE]),`(["self","measure","texts","most","words","text","keys","word","cost","known","key"]),`(Aa (qL bz c5 x) x (.Ag t.CM c5 (GI (c5,(yH j).vf,cn,A7 j) 0))),`(AfW (a:=(gK,A7 j,)) hmem),`(Aa aXW N (.dT (Fd U Y++[(Fv gK (A7 j),cS,)]))),`(nN H' (nB t.Cp f)),`(Agb N n' n eI aA),`(Ae5 N ms L r u h hs),`((mLy ms (r,u,)).find? s=(mLy ms (r,u+1,)).find? s),`(λi=>l.count i),`([mF Z.p,bW,mE (k:Int)]),`(Agl t Z H H' d eI),`(used|||HL (Ch M used)),`(mEH Z.X.F kvs kvs'),`(EV bo br sB (Ex Z (g.take j)) (k+1)),`(x.1.length=path.length)]
def W_50(a b c d e f:W_T):List W_M:=[`(aCe.map V.ref),`(ao.trans g2.kp),`((p.pre).snoc p.Ga),`([("stock",mF SP,)]),`(((aJ,S,ms,tw),F,dF,PA,SA,VA,D,mBg N)),`(if c=F\/c=D then sR F else none),`(Agu ok Y U.1 hw),`(mNf mF PyKgz.answers),`((PySem.W.emptyDict,#[],_,z,2,(λe he=>nL he aC),λ_=>rfl)),`((20,[u,N],.cons aj (.cons al .nil),(_,(T.2 _ (Auj O)).trans ao,30))),`(Bx aX T.B6.c T.Iz.h (W_ T) (a.As bB) T.Iz.b .nil Ay (Ad bI (mT (sN dE Ar)))),`(λw hw=>MD n B r fs w (mR hw)),`(Bz cuts b r (i+1) (a+w.1.length) (Am||Ei cuts b i w.1 a)),`(aQz.any (·.1)),`(λb v e=>(mC BM (h.st b v e)).trans (h.so b v e)),`(_::KgzNeutral.P1.ints _),`(mIS q.DN (mFL L.2)),`(Ad bF (uC bI (qQ aX (vK bQ)))),`(cells.lookup n),`(iM.take j),`(mFr cpos),`(zG Ln aL Ar),`(mET i)]
def W_51(a b c d e f:W_T):List W_M:=[`((nE $a $b $c) $b=some (.Ac $c)),`(IX $a st A7),`($a List.length),`(Ct b $a a),`(⟨rfl,$a⟩),`($a 0 0 m.feet),`(Bz m.cuts $a m.feet 0 0 m.cuts.isEmpty),`(.seq $a n),`(if $a then 1 else 0),`(mM (oD $a Ast)),`(Dv H k $a),`(.fields $a),`(C9 P w H h a $a),`(Ah (AR q $a)),`($a X.env.scope x),`(by rw[$a:term];exact$b),`(Aul hp $a),`(s.heap.IsTuple $a $b),`(R ($a K a) H1),`(starEach $a X.env),`(λb hb=>$a),`(if_neg $a),`($a j.Av e),`(Q aS (nE $a p $b)),`(Str.ofString $a),`(absurd (show false=true from $a) Ast),`(mDH cpos $a),`(by rw[<-$a];rfl),`(by show $a<=sizeLine;decide),`(mM (λz=>$a $b)),`(Gp $a hg hm $b $c),`(.Tuple elts $a $b),`(DC S $a acc $b),`(bootBuiltins $a=some (.builtin $a)),`($a mainGlobals $b),`(aV.drop $a),`(⟨_,rfl,$a,_,rfl,mH $b,_,_,rfl,rfl,_,rfl,?_⟩),`(.Ac (nF $a)),`(Asf (by omega:(1:Int)<=$a)),`(Ar_ (by omega:¬(1:Int)<=$a)),`(oR (mP $a) (oN (Asr $b) hp)),`(Kgz1.words $a),`(Hy $a $b $c (Bf _)),`($a (b.length:Nat)),`(oJ (.bl $a)),`(Ad $a (mT $b)),`(pB Ij $a Da),`($a (j+1)=$a j++[$b]),`(⟨_,rfl,_,rfl,p,_,_,_,rfl,Af,$a,$b,(by show $c<1000;decide),?_⟩),`($a t.Cy (CJ a $b)),`($a<st.length),`($a (pl:Int)),`($a λk=>(f k:Int)),`(EC $a s.heap $b $c),`(.Attribute $a $b apos),`($a (b:Int)),`(BA (by rw[ArX,ArX,$a:term];omega)),`(Mo (Asr $a)),`(vw X.E $a κ.m κ.w),`(fs.same $a),`(mD9 Ah $a),`($a (rest:Int))]
def W_52(a b c d e f:W_T):List W_M:=[`(nW (Be $a 4)),`(λc z=>z▸$a),`(Vf.cellsFrom $a $b),`(Vf.cellsFrom 0 (m.feet.take $a)),`(Bv (Eg oq $a) $b),`(D4 (Aj Z.m) Z.st r $a),`(nN $a (nB t.CB (IY SP PA F))),`(mE ((($a $b).cuts:$c):Int)),`(KW $a $b [] x (mH $c)),`(($a - $b - 1,4)),`(Ch $a T.cuts),`(AN $a 0 aU),`(mI (mH $a)),`(El m.cuts $a),`(by rw[mJ $a,$b:term]),`(Ei m.cuts b i $a a),`(($a $b).length<=$c),`(k.depth<=n/\Ky.C2 $a<=n),`($a i t $b $c _ _ _ _ hq),`(Sum.inl $a),`(mB (.own $a)),`(nL (Ass $a $b) (AtT _)),`(∀b u,$a b=aM ->qG b=aM),`($a h.objs.size),`(Inv X pins σ $a {s with heap:=h',toks:=t'}),`(by rw[$a:term,$b:term] at e;cases e),`(Inv X pins $a $b s'),`($a σ H1 Q),`(PT X $a tA),`($a pins s1 σ H1 $b n $c),`($a X.K H a xs),`(PA X $a ta),`(DO λi j=> mE $a),`(by rw[ArX,$a:term];omega),`(Q aS (nN $a $b)),`(sp vs $a Q E),`(Aa (qL $a dx x) x (nB $b [])),`(envOfC qual scope s.heap.objs.size f $a),`(xs.drop $a),`($a $b xs.length),`($a xs.length $b),`(Slot $a name id),`(.Call (mA2 o name) $a [] $b),`(Ato rfl $a),`(IntsAre $a ns),`(by rw[<-$a,$b:term]),`(Lc $a $b (λz=>nomatch z)),`(bootBuiltins $a=some (.type $a)),`(Ah (I $a _ q (λ_ _ z=>nomatch z))),`(Lu (tk:=s1.toks) $a _ $b $c q),`($a λo q=>k $b aC o q),`($a $b cM (λaa A outer s H vs Q E b h=>?_)),`(Ls hu $a $b $c rfl),`($a (i:Int)),`($a $b cM (λc A outer s H vs Q E d h=>?_)),`(mDJ [c] $a),`(Ao (Cu $a)),`(AZ (j:=0) $a),`(Au (k $a fA)),`($a (K:=K) rfl $b),`(Jy t H p m $a),`(x.getD $a 0)]
def W_53(a b c d e f:W_T):List W_M:=[`(Bc $a (EO a Am)),`(hs.same $a),`((_,nD $a $b)),`(.Al [mQ $a,$b $c]),`(CV (oV $a $b)),`(II t $a mp m),`(Kgz1.padded $a $b),`(oL (tZ (nT $a $b))),`((0,30,Az $a)),`(r.length<=$a),`($a (a:Int) (b:Int)),`(AE NO $a (Db M8 $b)),`(IP T $a w p),`(mLy $a (r,$b,)),`(Kgz1.splitOn $a $b),`(Ec $a s.heap $b $c $d),`(s.heap.objs.size+$a),`(by rw[ArX,$a:term];exact $b),`(⟨false,$a,1000,1000⟩),`(.Ag t.AV X.dF (BI X $a)),`(Cj (AR e $a)),`($a<2 ^ 1000),`(zV H' o' $a),`($a (λe=>by have:=$b;rw[e,$c:term] at this;cases this)),`(∀c,$a c=none->$b c=none),`($a _ _ $b (λe=>by cases e)),`(Aa $a X.F (.Ag t.AV X.dF (BI X $b))),`(Fr.refl.same $a),`(⟨$a,_,rfl,mN $b,?_⟩),`((Aa $a $b $c) $b=some $c),`(zY pT (D0 b $a)),`(mHi (mC N $a)),`(Bd i (wZ $a)),`(nP Y $a (mC $b $c)),`(mJ (mCr $a hj)),`(.Ac ((ns.take $a).map V.int)),`(mB (mLc $a $b)),`(mV C $a aDt),`(Ew $a st A7 k),`(ne _ _ $a (λ_ e=>by cases e)),`(AO t Z.X $a $b n $c),`(Ci $a $b (sR $b)),`(by have:=$a $b;omega),`(parts $a $b []),`(Atj.mpr $a),`(mH (mI $a)),`(cellsFrom $a r),`(C8 aJ $a iT),`((_,mJ $a)),`($a m.feet[$b] (Asw $c)),`(l.getD $a 0),`(tQ EW $a v),`(by rw[$a $b];exact $c),`(AsP (Ass (Asu $a) $b)),`(X.base.get? $a),`(λb hb=>$a b $b),`(AllBare $a),`($a b o e n hb hx),`($a ->Hp->Prop),`($a≠"__name__"),`(behindInMarks op $a=false),`(h pins s σ H $a j hw)]
def W_54(a b c d e f:W_T):List W_M:=[`(.BoolOp $a $b pos),`(X.env.scope.names.lookup $a),`(AsO $a hs rfl),`($a xs.length),`(∀σ H,Pv $a σ H->sX H),`($a i H x H'),`((λi m σ H=>m=$a - i/\i<=$a/\Pv i σ H,⟨$a,by simp,aR,h0⟩,5)),`(rI $a λi j=> mE $b),`(DO λi j=> .bl $a),`($a==sysModules),`(PySem.W.isFn K (mF $a)),`(PySem.W.keepIn $a (mF $b)),`(r.append $a),`(mDl $a f=true),`(MA CX P w K mg base N qual scope f $a A outer s H E),`(V->oG $a->oG $a->Hp->VK->Prop),`(BX $a (-$b)=some $c),`($a s.heap.objs.size),`($a l items),`(cellsFrom $a names acc),`($a {cls:= .type "dict",data:= .dict #[]}),`(mZ (AtL $a $b λ_ _ h'=>h')),`(DecidableEq $a),`(λb o hb e=>$a b o $b e),`(Ae K $a $b xs),`(qN (if(rE $a==Value.none)=true then _ else _) $b),`(nX T (.Al $a)),`(⟨_,$a,λv q=>nomatch q⟩),`(Ah (AsP $a)),`($a (t':=s1.toks) hk),`(s1.heap.objs.size<=$a),`($a hle ($b hle)),`(Aa H s.heap.objs.size (.Al $a)),`(backTo $a (mAt $b)),`(PySem.W.nsIn K $a $b),`(DP (oK $a) $b),`(uS aL (nT $a $b)),`(Dz (K:=K) rfl As3 AsH AsK E_ aW $a),`(λ_ _ _ _ _=>$a),`(Aa (qM $a $b) d (.Ac [])),`(⟨$a,_,rfl,nO $b,rfl,_,_,rfl,_,_,rfl,rfl,rfl,$c ?_⟩),`($a (Kgz1.sounds 0 $b)),`($a $b cM (λaa A outer s H vs Q E c h=>?_)),`((qB $a,eH)),`(Ab.free (mX $a $b) $c),`(MN rfl T.K0 $a),`(AE Lo (tZ Ar) $a),`(F4 (rZ IG) $a Gu (EZ $b)),`(FJ K (Bo $a) "weights"),`(mH (_,mN $a,2)),`($a - 1=(($b - 1:Nat):Int)),`(b.count $a),`(Ao (A3 $a)),`(NJ _ _ $a $b bB),`(FJ K (Bo $a) $b),`(oZ V.ref $a),`(ae.same $a),`(Kgz1.say (-$a)),`(⟨$a,by omega⟩),`(mN (z $a $b $c rfl rfl)),`(⟨$a,$b,$c,rfl,Af,rfl,?_⟩),`(by rw[$a $b,Af])]
def W_55(a b c d e f:W_T):List W_M:=[`(Kgz1.answer $a),`(rN (λ_ _=>True) $a),`(∃p,P.testBit p=true/\C8 T $a p),`(before a $a),`(Fs st (j::$a)),`((mEg Ob).get? $a=some _),`($a s.heap b1 b a d),`(Made t H $a Q),`(Ad Dw (Ad $a $b)),`(nB t.CH (Ft $a $b so 0)),`(Dz (K:=K) rfl As3 AsH AsK E_ aX $a),`($a t.BD (Dm κ a AA g b c)),`(L2.Aa H $a u),`(pl.testBit $a),`((Aa $a $b $c) $b=some $c),`(vw X.E X.E.Aq $a $b),`(∀p,$a p=true->∃a,($b,a,)∈fl),`(CQ X.E.T κ.w (1<<<κ.p) ((AH X.E.S $a).wd.sh $b)),`(Kn.FA fs $a),`(EQ lW.Bl (rQ $a 0) (rQ $a 1)),`(Aa (Aa (mCA H (n+1)) s (.Ac [])) $a $b),`(mEu l (.Ac (nF ns.map++[mF $a]))),`(AO t $a H' o' n' $b),`(A6 (i:=8) $a rfl eG $b),`(G8 t $a P a),`(if $a then $b|||Dg else $b),`(nB t.CI $a),`(HQ (rc g $a)),`(yC T.De.c $a $b),`((nN $a $b) p=some $b),`(by unfold CT;rw[Asv,mJ $a];rfl),`(mV de $a aDt),`(fh _ _ $a (fk e6.GJ $a (λ_ z=>by cases z))),`(Gw $a o H $b o' H' $c),`(C6 t Z.X $a o kvs $b),`(path++[$a]),`(mV $a $b (by show$c≠"stock";decide)),`(isCapital $a),`(List.zipWith (·+·) $a $b),`(D7 (Bm $a).2),`(Jc.contains $a),`(∀x∈l,x<=$a),`($a b c.place a),`(Ct $a (c.way.drop $b) $c),`(Cg (GN l $a) (l.drop $a)),`(l.drop $a),`($a->Shared->Prop),`($a aA hx hy hq),`(eq_of_beq $a),`(⟨_,rfl,$a⟩),`(.fields #[.int lo t,.int hi $a,.int 1 v]),`($a<h.objs.size),`(∀b,H b=none->b≠$a),`(env.cells.lookup $a),`(s.heap.objs.size<=$a),`(AsV j.ok.Jj $a),`(Cm X.prog X.w H' $a),`(Un $a $b H H' s.heap $c),`(C9 X.prog X.w (nX $a $b) h' $a $b),`(.Constant $a j pos),`(⟨$a $b,H,n.BW _,bY,$c⟩),`(bootBuiltins $a)]
def W_56(a b c d e f:W_T):List W_M:=[`(mDa $a (b::rest)),`(mDa $a (a::b::rest)),`(j.E3 $a o hk),`(.Assign $a $b pos),`(Gr X pins $a $b),`((2,mIS $a (mDx $b hb))),`(PI X tg iter $a),`(.int $a s.toks),`($a (Cv n q (AtB not $b))),`(PySem.W.plainGet K C $a),`(getMethod $a $b pl),`($a ns.length),`(show∃t,$a=$b $c t from r),`(show u=rE $a from $b),`($a $b s.heap.objs.size $c),`(.Attribute $a f $b),`(.Call (mA2 o m) $a [] pos),`(backToKw $a (keywordEach [] X.env)),`(nL (show $a∈([]:$b) from $c) aC),`(some ⟨$a,od,.func $b,$c⟩),`(PySem.W.codeIn K $a qual),`(ArZ (m:=Builtin.Tuple.tupleExact _) (As_ $a B)),`(.Subscript $a $b pos),`($a $b $b hi - $a $b 0 lo),`($a<=xs.length),`(($a (HT.AK $b 0 lo)).take (mFx HT.AK $b)),`(by rw[As2,<-$a];exact $b),`(s.heap.update $a $b),`($a (E6 x) $b aYl (.bl _,H,j,2,5)),`(its.toArray.any (E6 $a)),`(typeIs_int $a $b t),`($a $b its.toArray),`(sP (nE H $a $b)),`(Auc $a (sZ e) $b $c $d (oH e)),`(bs.getD $a false),`($a==NameKind.free&&sc.kind== .function&&uL $b==some .cell),`(pure (ForInStep.yield $a)),`(λb o hb e=>(nJ $a).trans e),`($a (p:=($b,y,)) e),`(valueAt $a k),`(by have:=Jo $a $b $c;omega),`(AuY AtX dd.typeIs Au5 $a $b $c),`(Kc (s:={s with heap:=h'}) e c $a bB $b),`(mZ (Avb $a hd aC ?_)),`(Aux (T:="StopIteration") (b:=true) $a AvK $b),`(⟨$a,$b,λv q=>by rw[$c:term] at q;cases q⟩),`(IsZip $a z TI TO .none),`(PySem.W.fnOf x qual (Jq st) (Im st) (A0 st) .none kV doc pm an $a ct),`($a $b=Option.none),`(Txt.isupper $a),`(aV.getD $a 0),`(HT.AK aV.length 0 $a),`(Dx $a none (mB $b)),`(⟨_,rfl,$a,_,rfl,$b $c,rfl,_,rfl,?_⟩),`(Aa H1 $a (.Ac $b)),`(Er t H $a wd),`(Ah (np _ $a)),`((0,_,mDX $a,5)),`(F4 (rZ $a) $b (EZ Ar) Gu),`(by rw[$a:term,ArY,$b:term];rfl),`($a (a:Int)),`(Bh (Sa (K:=K) rfl rfl) rfl T.RY RZ $a)]
def W_57(a b c d e f:W_T):List W_M:=[`(λj v _=>∃x,$a =aY /\v= .bl $b),`(mN (pW hy $a)),`((uB $a $b).map mk),`(k .Ax $a $b rfl),`(.Al [.num $a,.num $b]),`($a+((mk $b).length:Nat)),`(OH rfl T.L_ (mT $a)),`(Bh (K5 (K:=K) rfl rfl) rfl T.K3 K4 $a),`(Ab $a H'),`(Bh $a rfl T.B7 B8 $b),`(⟨$a,_,rfl,nO $b,rfl,_,_,rfl,_,_,rfl,rfl,?_⟩),`($a<ws.length),`($a m.cuts b $b i a Am),`(by unfold HJ;rw[hw,$a:term]),`(Ae K H $a (iv $b)),`(mEa (.scan $a $b l.length l)),`(nN $a (mAX nB $b)),`(some (.Ac ($a $b))),`($a (($b a b:Nat):Int)),`(T.BP.take $a),`(((($a&&&$b :Nat):Int)) != 0),`((Eb $a $a).mpr rfl),`(before T $a $b true),`(CQ T w (1<<<p) $a),`(S4 S (show $a+1<=$b from $c)),`(FY N (n+1) r $a),`($a<=r.length\/vS $b=true),`($a "tuple_iterator"),`(Atu (name:=mAy "__next__") $a $b $c),`(qN (mKe it $a) s),`(qN ($a $b >>= _) s),`(IsPair s.heap $a $b $c),`(mA1 b1 $a xs),`(qN (mKe z $a) _),`(qN (mQL mF $a >>= _) _),`(.ok (.ret $a)),`(CS K b1 $a a xs),`(CS K c $a b ys),`($a it d $b es.size ep),`(sW o (.dT $a)),`(Q (uH mE $a $b) H),`($a $b cM (λa A outer s H vs Q E c h=>?_)),`(⟨$a,rfl,(oM $b),?_⟩),`(SR (v:=$a) k),`(.Bw od (.dK $a)),`(D6 $a κ (i::q)),`(CS.of (mC $a f)),`(mHi (nP $a g ap)),`(.Al [mE $a,mE $b]),`(⟨[],$a,aR,by simp⟩),`(nD $a (mC m.st $b)),`(by have:=$a;rw[<-$b,$c:term] at this;cases this),`($a (u:= .Ac []) $b),`(∃q,$a =mB q/\y= .ref q),`(mJ (show i<[nC $a,nC $b].length from $c)),`(mO $a (Ase $b).symm $c),`(C.fs.un _ (BL $a $b)),`(λp hp=>(PU ok aA $a hp).1),`(nX $a (nB t.BD (Dm κ j AA (mF ga) s y))),`(∀c u,H c=aM ->o c=none->$a c=some u),`(J9 t $a o X.E (Rg kvs) n κ a dx sta AA g fa la),`(Aa $a X.D (.dT $b))]
def W_58(a b c d e f:W_T):List W_M:=[`(A4 P w K mg base A9 $a t.FQ t.N5 ["self","knot","rest","used","room"] (PV t r)),`(Dc T.BF.k (KJ T) (c.As aA) rfl T.BF.m T.G1.b .nil Ay $a),`(A6 (i:=9) $a rfl eG $b),`(S_ t $a p P SA),`(QF $a $b (rZ SK) $c FX OM),`(by show 1*$a<=sizeLine;decide),`(LV $a f0 f1 $b g1 $c),`(JF t $a SA S),`(CS.of (b:=false) $a),`($a _ _ $b (λ_ _ z=>by cases z)),`(⟨_,rfl,p,_,dx,_,_,rfl,$a,T.De.c,$b,rfl,_,rfl,_,_,rfl,rfl,trivial,_,_,$a,(qZ 7),?_⟩),`(a.contains $a),`(mW ((1<<<$a :Nat):Int)),`(nB t.CI (ES $a $b)),`(Gb t p dx r B b g H $a $b kT),`(Ah (λe=>by rw[e,$a:term] at h;cases h)),`(ah.fr aF $a aj),`(nB t.A_ [("half",aA0,),("cuts",mBh Aj $a Nat,)]),`($a i q x r C),`($a λc e=> mH e),`(EE t H g st A7 j $a $b R),`(mV ne $a (λ_ z=>by cases z)),`(λi=>(uF $a).count i),`($a<Z.st.length),`(mC $a ok.Di.at_),`(GL t Z H o b r $a),`($a Z.st.length Z.ms $b),`(b0 _ $a (qU $b)),`(AZ (j:=$a) rfl),`((Bs s).2.map λx=>((x.1,x.2.map (λc=>(c,$a,)),$a,):Rw)),`(∀x∈l,$a x=false),`(($a>>>T.AW)&&&T.cuts),`(T.cuts.testBit $a),`(d.1.testBit $a),`(∃y,$a y=true/\$b y=true),`(aJX.testBit $a),`($a (i+1) (b+cV.length) r),`(s.testBit q=true↔b<=q/\∃c,(cellsFrom i r)[q - b]? =mB c/\c.foot=i+k/\$a c=true),`((DI 0 0 m.feet).zip (mQI An $a).tail),`(O4 m $a c.foot c.way $b $c),`(nL h (TF m Am $a)),`(mGm Bz (m.feet.drop $a)),`(Bz m.cuts b aAK (i+1) $a $b),`($a+w.length<=b.length),`(Q $a {s with toks:=s.toks+$b}),`(rawHash (mAi $a)),`(wpAny_pyHash_int $a),`(Value.int $a t),`(h.objs.size<=$a),`(∀b u,b≠e->$a b=aM ->qG b=aM),`(Un fs ex $a H1 h h1),`(Ah (hm $a _ q λz=>z)),`($a $b=some .cell\/$a $b=some .free),`(X.EK.heap.get? $a),`(∀x c,sF x=bT ->c≠$a),`(λb o _ _ hc e _=>k b o $a e),`(λb o _ _ hc e _=>(o.slots,k b o $a e)),`(storeName X.env $a $b),`(wpAny_Name $a hd),`(∀whole,isTrue $a X.env whole=(do let v<-whole;standAt $b;holding [v] (truthy v))),`(.Tuple es $a pos),`(swapsWith $a (mB $b) pos.line X.env=pure false)]
def W_59(a b c d e f:W_T):List W_M:=[`(.AugAssign $a op $b pos),`(.Subscript o i $a),`($a->Heap->Prop),`(F3 P w K tg $a [it] it $b),`(show mFF $a $b from p),`($a=s1.heap.objs.size),`(s.heap.push {cls:= oE "range",data:= mEY $a}),`(mAE $a boot_range $b),`(T.obj _ _ $a b hb),`(Int->Int->$a),`(Bt X (compareOp $a) $b),`(⟨$a,fO,by rw[$b r];exact q⟩),`(Lj s.heap $a dx C mA),`(Cn f v ((k,$a,)::r)),`(CX outer H s E $a $b),`(Lm P w K mg base A outer s $a),`(bindArgs $a aK4),`(AtW (QB $a hg hm ?_ n)),`(cellsFrom cZ scope.names $a),`(Builtin.Slice.slicePlaces $a $b 1),`(s.heap.IsSliceOf sl $a $b .none),`(Ats $a $b (x:= .none) rfl cO),`(A5 (oQ $a z) λv s1 (x,H1,B,D,G)=>?_),`($a pins s2 σ H2 _ $b L),`(seqIndex_of h0 $a),`(seqIndex_neg aA $a),`(subscripted $a false $b $c),`(operate [$a,$b] (getItem $a $b)),`($a $b=some {cls:= fJ,data:= $c}),`(Ae $a $b p $c\/A8 $a $b p $c),`(λxs H Q=>∃p ys,xs=[aS]/\(mID $a H ys)/\Q (mE ys.length) H),`($a=s.heap.objs.size),`($a s.heap.push),`(∀(s:Shared)(H:Hp)(C:Addr)(cl:fQ)(B:aP),$a (mLw s H B) $b $c),`($a s3 (qM H2 D) s3.heap.objs.size (mLv (s3.heap.objs.size+1)) $b),`(pushCells (mDu $a) scope.names),`(∀(s:Shared)(H:Hp)(C:Addr)(cl:fQ)(z:aP),$a (mLw s H z) $b $c),`(∀(s:Shared)(H:Hp)(C:Addr)(cl:fQ)(J:aP),$a (mLw s H J) $b $c),`(HF H a y $a H'),`(λj H'=>H' d=sW od u/\$a j (Aa H' d u)),`($a (t':=s1.toks) λb o e=>pK e),`(st.2.at λo e=>$a $b aC o e),`(Array.getElem?_eq_none $a),`(pO wpAny_fieldsOf $a hd),`($a (t':=s.toks) $b f0 f1 G f4 I),`((_,($a _ (Auj $b)).trans $c,30)),`(hk b $a aBA aBA q),`(λb o hb q=>$a b o hb q),`(h.IsListIter $a $b i),`($a =none\/$b =none),`(hk c o $a $a $a $a $b),`(mAt [$a,$b]=(false,oU $a,)::starEach [$b] X.env),`(yU "zip" [e,$a]),`(At x y x.length $a),`(pre jF (fR.drop $a)),`(tl (strSub x $a x.length)),`(occurrences $a y 0 x.length (x.length+1)),`(Auc Avn (AuH _ _ _) Awa (AvQ _ _) $a ?_),`(Builtin.Str.strSliceIndices $a $b 1 $c),`(PySem.StrLaws.sliceText z $a $b),`($a "abcdefghijklmnopqrstuvwxyzAEIOUY"),`(CC.trans $a CC.Aa)]
def W_60(a b c d e f:W_T):List W_M:=[`(λn=>$a λc=>(c:Int)==n),`(Hw (i:=2) $a rfl eG $b $c),`(zF $a aYv (mLx mF $b $c)),`(⟨_,rfl,$a,_,rfl,mH $b,rfl,_,rfl,Au ?_⟩),`(⟨_,rfl,a,_,_,_,rfl,rfl,$a,rfl,$b,_,rfl,mI ($c T),rfl,by decide+kernel,_,rfl,?_⟩),`(pI t.FR (VD $a q)),`(Dz (K:=K) rfl As3 AsH AsK E_ $a (mT $b)),`($a $b (λe=>by subst e;rw[$c:term] at hp;cases hp)),`(Dx (nF $a) (mB 1) none=$b V.ref),`((19,nD $a $b,nD $a $c,mH kI)),`($a Kgz1.isLetter),`(Ff (QO DB DB Ar $a $b)),`(List.map_id $a),`(Kgz1.okLine $a),`(λ_ _ _ _ _=>Rk $a),`(nN (qL $a dx p) (nB $b [])),`(mV $a fA (_,mJ $b,2)),`(sN (mLx mF t.FT T.Po) $a),`(∀b o,b≠c->b≠d->H1 b=aH ->$a b=aH),`((u.take $a).foldl CZ ([],[],)),`(by rw[h4 $a $b];exact $c),`((19,s2.seq $a,by rw[ArY,mJ $b];rfl)),`((_,s2.seq $a,34)),`(∃m,W 0 m (qM $a $b)),`($a λn=>$b λc=>(c:Int)==n),`(Au (mJA $a (mX L $b))),`(N none ?_ .Ax $a $b rfl),`(∃pc,$a =mB pc/\y= .ref pc),`(Mf H d $a (FU m)),`(m.feet.getD $a []),`(NW m $a 0 0 m.cuts.isEmpty),`(A6 (i:=7) $a rfl eG $b),`(Hw (i:=$a) $b rfl eG Ar $c),`(Aa H1 $a (mCd (i:Nat) nC $b)),`(Bb (VI T) eE rfl T.Gy.m T.Gy.F.kp T.Gy.b .nil Ay $a),`(Bb (Sl T) eE rfl T.Fk.m T.Fk.F.kp T.Fk.b .nil Ay $a),`(Bh (QP rfl) rfl T.RX R_ $a),`(Ap (K:=K) rfl $a rfl),`(mEa (.way $a $b l.length l $c)),`($a λn=>((n:Nat):Int)),`(GY $a T.Eo.c T.IA.h (Wg T) $b T.IA.b .nil Ay),`(by rw[$a:term,$b:term] at U;cases U),`(KA (Kgz2.answer $a)),`(Option.map _ $a),`(mV $a fA ⟨$b,mJ $c,?_⟩),`(.set (λk=>(Mi $a).any (·==k)) (Mi $a).length),`((.int _,H,$a _,bY,q)),`($a (K:=K) rfl rfl),`(Kgz2.isRow $a Aq $b),`(mQS before $a Q),`(KF T ($a aBX) sh.A2.dropLast),`(J5 $a later m),`(Bu S ($a+1)=dH+cE.n),`(aNB.testBit $a),`(block N n r $a),`(FY N ($a - x.1.length) x.1 x.2),`($a λf=>GD aFS),`($a cuts b $b i a Am),`(s.heap.IsTupleIter it $a $b),`(∀o,oT $a=aH ->qG $a=aH),`(∀c o,c≠z->$a c=aH ->$b c=some o),`($a _ o D.i1z e)]
def W_61(a b c d e f:W_T):List W_M:=[`(mF ($a $b b1 a b c).objs.size),`(mQ3 $a #[bW,.int 0 0]),`((mEg $a).objs.size=s.heap.objs.size+$b),`(CS X.K b H a $a),`(field (mF $a) $b >>= _),`(size_of_entries $a),`(oD $a True.intro),`(At1 (Ass $a (As5 aA $b))),`(Ab.BG $a (BL $a $b)),`(Ad $a (mT $a)),`($a t.CH (Ft $b fo so W)),`(by rw[<-e,$a:term] at B;cases B),`(∃x,$a =aY /\y= .ref x),`($a c u hc (mC s0 q)),`(KK t H o $a $b κ ga),`($a (B:=λ_=>False) $b (λz=>z) jO aF),`(⟨$a,by rw[Ah $b];exact $c⟩),`(mJ (show $a<$b by omega)),`(mJ (show $a<[nC $b,nC $c].length from hj)),`(BX [nC $a,nC $b] (m:Int)),`(⟨$a,_,rfl,$b,_,_,rfl,aZ,_,_,rfl,aZ,rfl⟩),`(∀c u,H c=aM ->c≠$a->H' c=aM),`(∀q∈fl,Rg $a q.1 q.2),`(mCd (j:Nat) nC $a),`($a ((BE l S.Bk:Nat):Int)),`($a<X.E.S.length),`(mEq (rQ $a $b).2.testBit ⟨$b,(rQ $a $b).1,p⟩),`(JA ok $a (Oo $b $a hb)),`(mRe ((ok.BQ $a $b).sh $c)),`(JB t X $a o kvs κ j g),`(λg hg=>iL.gw $a $b),`(.Bw od (.dT $a)),`(Ah (λz=>by rw[z,$a:term] at e;cases e)),`(∀c u,H c=aM ->c≠X.F->c≠$a->$b c=some u),`((d,mV fr q $a)),`($a (λe=>by have:=$b;rw[<-e,$c:term] at this;cases this)),`(nodup_getElem? $a $b $c),`(Ans X.E $a used u rest room v),`(⟨_,rfl,$a,_,$b,_,_,rfl,$c,T.BF.c,T.NA,rfl,_,rfl,?_⟩),`(BC _ z j hz m $a),`(Fu X.E ($a&&&mEp fY $b)),`(some (.Ac (zY iv $a))),`($a ((before $b b.done 2 true:Nat):$c)),`(Te f0 f1 $a g1),`(nO (mV $a bv bw)),`(nO (mV $a B bx)),`(M9 K (Bo 0) (Bo 1) aId $a),`(mHn (FC b g $a $b) r),`(⟨_,rfl,$a,rfl,$b,?_⟩),`(NM $a hp (λb o h e=>$b b o h e)),`($a (by rw[$b:term,ArX,As4];omega)),`(KP (KR m j) $a AT),`(⟨_,rfl,pL $a,_,rfl,$b,_,_,rfl,rfl,$a,BA kI,?_⟩),`($a m.feet 0 0 j _ (GH $b)),`(JI t H SL m $a),`(λj H1=>fS /\H1 $a=nW $b),`(fr _ _ $a (mCz ne $a)),`(Aa bf bj (.Ac [tH $a aU.length])),`($a ge (EU (cQ+i)) (tH $b (cQ+AT i))),`(iv ((oP $a).map λ_=>0)),`($a λ(x:Nat)=> .num (x:Int)),`(Ah (M (mC I $a)))]
def W_62(a b c d e f:W_T):List W_M:=[`(if $a=CT $b $c then 1 else 0),`(Bc (Fd $a $b) (Fv a.1 a.2)),`(.Ag t.CM (R $a).dx (GI (R $a) $b)),`(aAO.map (Ew $a st A7)),`(by rw[$a:term,$b:term] at hx;cases hx),`(∀(i:Nat)(q:Addr),ws[i]? =mB q->Er t $a q (yH i)),`(mV $a cc (Asr cf)),`(Gc N ms $a<Gc N ms (L++[(r,u,)])),`($a++aJE++[(r++[u],0,)]),`(Kgz2.scansRow (E2 $a) $b $c),`(.Ag t.Dd $a (mRh $b $c)),`(GK t Z H b r $a g i sa a0 a1 used),`(PK (Aj Z.m) Z.st ok.Fx r.length $a m rfl $b),`(Ey t Z $a o kvs L bs path),`(Ey t Z H o kvs L (bs++[b]) $a),`(∀c u,$a c=aM ->(∀d f,u≠ .Ag t.Dd d f)->c≠$b),`(by rw[z,$a:term] at e;exact mC hu (Ase e).symm),`((KU Z $a).getD []),`([("stock",$a SP,),("places",$a PA,)]),`(Kgz2.answer (.next d.length $a gU st.length Aq f f.length)),`(λr d=>if $a&&&$b≠0 then r|||$c else r),`(cellsFrom $a scope.names (DZ X.env.cells scope.names [])),`(X.E7 $a $b scope (compEnvC scope cl C X.env) $c),`(AQ (v:= $a $b) rfl $c rfl),`(BK N $a (L++[$b])),`(a1.ev $a a2),`($a b o e hx),`(List.foldl (λn c=>10*n+(c - 48)) 0 $a),`((by rw[$a:term];exact $b,4)),`(T8 $a $b gT aXS r i b k s q h),`($a%4 != (if c.way[c.place]=45 then 0 else 1)),`(if $a then aU.length+1 else 0),`(List.zipWith (λg r=>if g then 3 else Ez r) $a $b),`(List.mem_reverse.mp $a),`(Classical.propDecidable (a=$a)),`(wpAny _ _ (if$a=true then _ else _) Q E _),`(mGE Builtin.Tuple.tupleItemsOf $a),`(Asg ⟨D,hs++[k.hash w],d+k.draws,I.2,$a,by simp[hb],by rw[B];simp[Ky.GQ],by rw[C];simp[Ky.JT,Nat.add_assoc],by simp[Nat.add_assoc]⟩),`(pO Aux $a isSubtype_tuple_tuple),`($a (mI x) (.str x t)=true),`(¬($a a:C3)=$a b),`(Asu (show oT $a=some _ from $b)),`((z.1,z.2.1.keeps $a,z.2.2)),`(by subst z;rw[$a:term] at j;exact j),`(($a++$b,by rw[$c:term,Array.append_assoc])),`($a c o (j.Lh x c e) hc M L aGh),`(λb o _ hb _ e n=>$a b o e n hb aC),`($a∈X.ex\/X.EK.heap.objs.size<=$a),`(sG (isTrue e X.env $a) aKI s),`(sG ($a st X.env) (SP X pins D) s),`(wpAny_loadName_local $a hk $b hm $c),`(wpAny_loadName_cell $a hk hc $b $c),`(Calls.Name_function_global j.ok.kind hg $a hd),`(isTrue_plain $a (he _)),`(A5 $a λv s1 (x,H1,n,z,B)=>?_),`(∃its:aT,AB xs its/\$a s.heap a its.toArray/\xs.length<=sizeLine),`(A5 aCr λv s1 (x,H1,n,q,z)=>$a),`(["enumerate","zip","dict_itemiterator","dict_reverseitemiterator","odict_iterator","itertools.zip_longest","itertools.pairwise"].contains $a=false),`((λi H=>∃xs x,$a,λi H x H'=>H'=H/\∀xs,$b,λi H=>∃xs,$c)),`((λi _=>i<n,λi H x H'=>H'=H/\x= mE $a,λi _=>n<=i)),`(mFQ d (x,H,aYq,D,(mMS $a),J,aBi)),`(λi h=>IsRangeIter h it (lo+(i:Nat)*$a) ((n:Int) - (i:Nat)) $a)]
def W_63(a b c d e f:W_T):List W_M:=[`(Walks.range (prog:=X.prog) (w:=X.w) aEb it lo $a n),`(Kc (s:={s with heap:=h',toks:=tk}) (n:="range_iterator") J rfl rfl bB $a),`((125,mIO z.CF,$a a _,jB,fM,q)),`(wpAny_pyIter_range (IsRange.new ..) $a ?_),`(A5 (xI $a $b) λus s1 (vs,H1,B,D,G)=>?_),`(∃m,W 0 m σ $a),`(T.keep _ _ _ $a λb hb o e=>$b),`(∀z H',N z H'->∃B,B<m/\W ($a+1) B z H'),`(mI ((xs,xs[$a],q,by simp[G]),Pv ($a+1),λz H' I=>(xs.length - ($a+1),4,2,G,I),λx H' y=>?_)),`(mH ((xs,q,aF),hd σ $a p)),`($a->$a->Hp->Prop),`(rule i j t t' s _ _ $a),`(-(2 ^ 64)<$a/\$a<2 ^ 64),`(lastMarks [op,q] $a=false),`(PySem.W.takerIn K C $a),`(A.under (.builtin "type.__call__" ($a C::$b,kw))),`(λb q hb z=>(nJ $a).trans z),`(h pos pins s σ H _ $a hq),`($a (t':=s1.toks) (λb u e=>pK e) aF ?_),`(AvP (h₀:=X.base) B.ok.mod.O5 $a (A5 (xI H B) λus s1 (vs,H1,D,r,q)=>(oH D.E3)) he z),`(PySem.W.methodCall_KW (pl:=pl) $a $b),`($a kindOf ((p,w,)::P.zip vs) m p),`($a (i:=i) (AtY.mp nd).2 (mR h1) (mR h2) hk),`($a (mBL cd).kindOf aEj λ_=>none),`($a $b 0 lo=0/\$a $b $b hi=$b),`(($a+(its.toArray.size:Int)).toNat=j),`(⟨mE ys.length,$a,fO,(s.toks+1,by rw[As2,hlen]),q⟩),`(λxs H Q=>∃p ys,xs=[aS]/\((mQ5 $a H)\/(A8 $a H p ys/\Q aS H))),`(Builtin.List.listTooLong $a),`((.ref _,_,j.YZ (t':=s.toks) $a $b,2,q _ j.BC)),`(List.foldl (λO Y=>O++Y) #[] (mFF oX $a)),`($a s.heap.objs.size l 0),`(Option.map_eq_some_iff.mp $a),`(.ListComp elt [⟨$a,iter,ifs,0⟩] scope pos),`($a λB=>if B.1=k then(B.1,$b,) else B),`(show mAm $a from UK ok e),`(∀q s',sI H s'->AJ $a q->Q q s'),`(wpAny_Dict_empty (eP,_,mQ6 $a $b,2,h _ aBq)),`((ML hu,k,xs,Il j.Av $a,dd,h _ _ fO ?_)),`(.Call (mA2 o "get") $a [] cpos),`(Au9 m.base m.AA m.line Auo AtX PySem.F.type_dict_get $a),`((o,68,k _ o (λz=>(hf _ z).2.1 rfl) $a,r)),`(AsO (A5 (xI $a B) λus s1 (vs,H1,D,G,I)=>?_) hs $b),`(B.DN (t':=s.toks) $a f0 f1 J f4 L),`((2,λys hy=>by rw[$a hy hq];exact hx)),`(mOR $a #[mF d,.int 0 0,.int es.size 0,.int ep 0]),`(⟨$a,e,λv z=>by rw[$b:term] at z;cases z⟩),`(mBX $a (Z2 _ $b) (_,eQ,2,5)),`(λi h=>aUl /\ $a /\e≠it),`(Inv X pins σ aLE {s with heap:=$a,toks:=$b+1}),`(⟨_,$a,rfl,$b aF,rfl,λys hy=>by rw[$c hy hq];exact hx⟩),`(xs.length<=$a\/ys.length<=$a),`(Inv X pins σ (mDG [$a,y]) {s with heap:=$b}),`(λc o hb q=>($a c $b).trans (mIY $b q)),`(hk _ _ D.TIz D.TITO D.TIi1 D.TIi2 $a),`(PySem.W.ktu_apart s1.heap.objs.size $a $b $c $d),`(Builtin.Str.occurrences $a $b 0 a.length (a.length+1)),`($a ((mM (AvG h1)).trans $b).symm),`(UR (l:=[(a,t,)]) (ys:=Txt.split a b) (k:=s.toks) j $a z h),`(uO nK (Txt.join $a ys)),`(⟨.str _,$a,j.BW k,(t',2),h⟩),`(λx xs H Q=>∃a b,x= nK a/\xs=[nK b]/\$a ($b a b))]
def W_64(a b c d e f:W_T):List W_M:=[`(.Call (mA2 o $a) [e] [] pos),`(min (if $a<0 then $a+(n:$b) else $a) (n:$b)),`(∀H',$a H'->∃o,o<m/\W ($b+1) o H'),`(∀(s:Shared)(u:Value),BindsTo s fd ([u],[]) [($a,u,)]),`($a aCU (WData.list (($b ns).map WData.int))),`(λv H'=>∃D,v= $a D/\H' D=nV (($b ns).map V.int)),`(PySem.W.fnOf x x (Jq st) (Im st) (A0 st) .none g doc pm an $a ct),`(⟨_,rfl,$a,ys,rfl,uU hy,rfl,$b,_,rfl,?_⟩),`((0,_,mH (sZ $a),5)),`(⟨_,rfl,_,rfl,a,_,_,_,rfl,rfl,e,$a,_,rfl,(K7 $b).1,by rw[BT];have:=K7 $b;omega,_,rfl,?_⟩),`(Au ⟨_,rfl,_,rfl,_,rfl,$a,_,rfl,$b,hE⟩),`(Dz (K:=K) rfl As3 AsH AsK E_ $a $b),`(Bb (Adh T) bR rfl T.Io.m T.Io.F.kp T.Io.b .nil Ay $a),`(mDT (mAT aW (mF6 IG $a))),`(F8 (K:=K) (n:=2) rfl rfl $a),`(CG (AI (i:=$a) Mc.nd rfl aLP) $b),`(by subst e;rw[$a:term] at hq;cases hq),`(Nat.le_succ_of_le (ar $a $b)),`(Dc T.DQ.k (Adi T) eE rfl T.DQ.m T.LB.b .nil Ay $a),`(nB t.IC (Cn "vowel_first" (mQ (vf:$a)) [])),`(QU t.FR (VE K t) [] E0 $a),`($a (97,g,80,bB,rest $b (by simp[GP,ax]) _ rfl)),`((parts.take $a).filter λp=> !p.isEmpty),`(by rw[<-$a,Af,$b:term];simp only[iv,List.map_append];rfl),`((48,nD $a $b,nD $a $c,157,157)),`(List.mem_of_mem_tail $a),`(mV bk (cg _) ⟨$a,_,cj,rfl,$b⟩),`(Bb (Sf T) bR rfl T.Fj.m T.Fj.F.kp T.Fj.b .nil Ay $a),`(Dz (K:=K) rfl As3 Au2 AuZ Rh aW $a),`([mB cX,mG $a,mG d,v,none,none,none,none]),`(OY F.slot_str_count F.type_str_count ZE aL (nT $a $b)),`(⟨_,rfl,_,rfl,$a,_,_,rfl,rfl,_,rfl,?_⟩),`(mU (by omega:((b.length:Nat):$a)<=$b)),`(mS (by omega:¬((b.length:Nat):Int)<=$a)),`(oI [mE (c.1:$a),mE (c.2:$a)]),`(Bb (Ad4 T) eE rfl T.Iq.m T.Iq.F.kp T.Iq.b .nil Ay $a),`(Dz (K:=K) rfl As3 AvF F.type_list_index (rZ AcV) $a (mT gS)),`(∀v∈xs,v= .Ax\/∃a c,v= aI /\A8 $a H a c),`($a λv=>decide (v= .Ax)),`(Bool.and_eq_true_iff.mp $a),`(m.OV (ch:=[e,it]) $a hf aF new),`(m.DN (t':=s.toks) $a f0 f1 af f4 ag),`(mRk $a=some (mE (b.getD $b 0:Nat))),`(λc=>c.1==$a&&decide (c.2<x.length)&&decide (4<=sT (a+c.2))),`(Bx aL T.Ca.c T.I0.h (VX T) bR T.I0.b .nil Ay $a),`($a (Jz m b N i z Am:Nat)),`((19,nD s3 (qA $a),by rw[ArY,mJ $b];rfl)),`((0,k D H1 s1 u $a)),`(mEx G4.nd (mNS (Ad bQ (Ad $a aYr)))),`(Bb (AdQ T) eE rfl T.padded.m T.padded.F.kp T.padded.b .nil Ay $a),`((90,λD B=>k D _ (oR $a B) ($b B) Af)),`(AL (by show 1+_<=_;rw[ArX,Wc $a _ $b,Asi,AuB];omega)),`(Bb (AdR T) eE rfl T.IB.m T.IB.F.kp T.IB.b .nil Ay $a),`(nG (qR $a) (oL (tZ $a))),`(Dc T.Ca.k (AdM T) eE rfl T.Ca.m T.LP.b .nil Ay $a),`(by show aM4=_;rw[$a:term];rfl),`(Bb (VW T) $a rfl T.Gz.m T.Gz.F.kp T.Gz.b .nil Ay dU),`(GY $a T.Eo.c T.Kz.h (AdT T) $b T.Kz.b .nil Ay),`(by rw[e,$a:term] at l;cases l),`(KgzNeutral.down $a aUY),`(PyFlat.played KgzNeutral.step $a (cs.map enc)),`(DP .Ax $a= !(st.all λx=>jI))]
def W_65(a b c d e f:W_T):List W_M:=[`(∀x∈st,x.length<=$a),`($a ((st[i]).length:Nat)),`(oA Au (bad (by unfold G6;rw[mS (λq=>$a $b),At5]))),`(PyProof.Rows.step_dedup acc $a),`(Ar_ (show¬$a<=Builtin.bitNot $b by unfold Builtin.bitNot;omega)),`(h pins s σ H _ _ v u Q c d i $a),`(sY (($a T pl n a:Nat):Int)),`(∀(j:Nat)(pc:Addr),$a =mB pc->∃dd,T.BP[j]? =mB dd/\H pc=some (mGW (dd.1:Int) (dd.2:Int))),`((T.BP[j],cW,$a j pc _ e cW)),`(some (.int ((aBU.foldl $a $b :Nat):Int))),`((16,pc,36,nO $a,mHC $b,13,0,5)),`(Au (16,pc,36,nO $a,mHC $b,13,mG pc,2,5)),`(Au4 Nat.and_le_right $a),`(Am||(decide (4<=s)&&El m.cuts $a)),`(G9 $a (later 1) (G9 $a (later 0) st a.DF) a.CO),`(aA3.foldl (λr l=>r|||aNv) $a),`(if w=4 then B else mGw B (BB (BE w $a))),`(W7 T m w _ a q hw (c a ha) $a),`($a i=if i<x+1 then$b i else(b/2 ^ (x+1)).testBit (i - (x+1))),`(λr=>($a==[]||before $a r)&&s r),`(WH N Aq a [] (mR $a) $b (mR hd)),`(goOn N ($a - fD.length) fD),`(List.perm_cons_erase $a),`(mZ (Ats $a hd (x:= $b) rfl ?_)),`(mZ (Ats $a hd (x:= .int i 0) rfl ?_)),`(ArZ (m:=firstArgMember _ _) (wpAny_of_eq (a:=Value.none) $a ?_)),`(AuC _ $a (Obj.isFreed_of_fields (Au_ hd _))),`(ArZ (AuN (mGC $a Av3 (Atf Av3 $a F.entry_zip_next ?_ (F.args_zip_next_1 _))))),`(mQT TI (pO AtV $a rfl)),`(ArZ (Ava (mQT TO (mZ $a)))),`(∀c o,c≠$a->c≠$b->nU c=aH ->v2.get? c=some o),`(∀c o,c≠z->c≠a->c≠TO->nU c=aH ->$a c=some o),`($a _ o D.i2z D.i12.symm D.TOi2.symm $b),`(g2.at λo e=>$a _ o D.l2z D.l2i1 D.l2TO e),`((s3.2 z D.TOz.symm).trans ((s2.2 z D.i1z.symm).trans $a)),`(∀c o,c≠z->c≠TO->c≠a->c≠d->nU c=aH ->$a c=aH),`(by subst x;rw[$a:term] at B;cases B;simp at C),`((y,($a e H).trans B,C)),`(mGM s.heap.IsValIter $a),`(Array.getElem?_eq_getElem $a),`(s.heap.update it (Obj.mapFields (·.setIfInBounds 1 (rawInt ($a+1))))),`(Avr (s:={s with heap:=mB1 mOO}) st.typeIs $a),`(n.DN (t':=s.toks) $a f0 f1 u f4 x),`(Q eP {s with heap:=s.heap.push {cls:= oE $a,data:= .fields $b}}),`(.Call (mA2 $a "values") [] [] $b),`(⟨$a,λb q=>by cases q;exact$b,?_⟩),`(dictSetDefault d aI $a),`(knd.keeps $a g hd (AtD ..)),`(j v0 aNX $a _ (f.BW _) G),`(Builtin.bitAnd $a (-$a)),`((125,mIO j.CF,$a a _,jB,m,q)),`(Bb (WV T) eF rfl T.G0.m T.G0.F.kp T.G0.b .nil Ay $a),`(∃bt,(Fb $a)[j]? =mB bt/\y= .int ((bt:Nat):Int)),`([$a,.bl v.fin,mE (v.W:Int),mE v.r,mE v.c]),`(Ad ($a $b) (mT ($a $c))),`(Dc T.BF.k (KJ T) eE rfl T.BF.m T.G1.b .nil Ay $a),`((by rw[ArX];exact $a,19,by rw[e];exact mN $b,mQ9 $c i)),`(mQ (($a&&&used:Nat):Int)),`(Au ⟨_,rfl,$a,_,r,_,_,rfl,u,T.BF.c,$b,rfl,_,rfl,_,_,rfl,rfl,_,rfl,?_⟩),`(Kd (CU aRk (Bo $a) (mD2 6 $b))),`(∀c u,c≠$a->$b c=aM ->(aID) c=some u),`(⟨_,rfl,_,rfl,$a,_,az,_,_,rfl,a0,T.BF.c,$b,rfl,_,_,rfl,rfl,_,rfl,?_⟩)]
def W_66(a b c d e f:W_T):List W_M:=[`((uX a.keep $a,aN4.trans h)),`(⟨v,(mLz e).1,(mLz e).2,$a⟩),`(zV $a aFc $b/\C6 t X $a aFc $b c/\Gw X.F o H $b aFc $a $b),`((λb v e _=>$a b v e,BM,λb v e=>(v,$a b v e))),`(((mRb $a),(mRc $b),ev _,λ_ _ r=>r,λ_ _ r=> mH r)),`(h.un b (by rwa[Ah $a] at e)),`(Fu E (pl&&&vw E E.Aq $a w)),`($a<=j->∃r,aN6 /\done[$b]? =mG r/\$c H1),`(Cz $a r (rP 0 a c).1 (rP 0 a c).2),`(Cz $a r (rP 1 d P1).1 (rP 1 d P1).2),`(a.testBit $a),`(⟨$a,_,rfl,$b,_,_,rfl,aZ,_,_,rfl,$c,rfl⟩),`(J6 X.E.T (IR X.E) (JA ok) $a κ.m κ.w κ.p kb.m kb.w),`(mG9 bk ($a++[(eW,aI,)])),`(∀p,$a p=true->(mEp $b $c).testBit p=true),`((a9.same s3).gw $a (rY ba)),`(Ao (qE Oq.nd (mRa (mPX bI $a)))),`(On (λz=>$a (At2.mp z)) ?_),`(∃x,$a =aY /\y= .int ((x:Nat):Int)),`(List.dropLast_subset _ $a),`(CQ E.T κ.w (1<<<κ.p) ((AH E.S $a).wd.sh m)),`(nI (rP m w $a).2.testBit p),`(J6 X.E.T (IR X.E) (JA ok) X.E.Aq m w $a hm hw),`((ok.AT $a (ok.KN _ m w $a hm hw hb.2)).2 _),`(⟨_,Oo $a,by simpa[Cc] using $b,$c⟩),`((p,ok.Mp $a,by rw[Atd,AsF];exact⟨hp,$b⟩,2)),`(KK t H' o' X.E (Rg $a) κ ga),`(∃pi,y= mF pi/\DE t $a pi $b),`(by rw[e,$a:term] at bs;cases bs),`(Aa (Aa (mBK dh t.CH) so (.Ac [])) $a (mEj lW.Bl L)),`(Xa ($a $b du) ($a $b dv) ($a $b dw) ($a $b dy)),`(⟨_,rfl,$a,_,$b,_,_,rfl,kn.at_,T.CN.c,$c,rfl,rfl,_,rfl,?_⟩),`(AO t X $a o' (n+1) kvs),`(hk _ _ $a (λe=>by have:=h.f;rw[<-e,$a:term] at this;cases this) $b),`(hk c u e (λq=>by rw[q,h.of] at C;cases C) (λq=>by rw[q,$a:term] at C;cases C)),`(hk _ _ n1 (λe=>by rw[e,h.of] at ol;cases ol) (λe=>by rw[e,$a:term] at ol;cases ol)),`($a (λe=>by rw[e,$b:term] at ol;cases ol)),`(mPH $a (λe=>by have:=$b;rw[e,ol] at this;cases this)),`(.Ag t.BD m (Dm M p AA C $a $b)),`(∀c u,$a c=aM ->c≠$b->($c) c=some u),`(YH (AeZ T) $a rfl T.Iu.m T.Iu.F.kp T.Iu.b .nil Ay),`(Bb (WW T) gX rfl T.G3.m T.G3.F.kp T.G3.b .nil Ay $a),`(k w _ n' o' U C (D.same s3) (g'.trans (rB s3)) Y (D.un _ hw) $a),`(∃p,$a =mB p/\y= .ref p.2),`(mH ⟨$a,hz,λh=>by omega⟩),`(["self",$a,"rest","used","room",$b]),`(Lk X.E.S $a u rest room),`(some (zY pT (IO $a (F,L,) $b))),`(Bx aX T.B6.c T.Iy.h (Wz T) bR T.Iy.b .nil Ay $a),`(Ad $a (uC (mJr $b) Dw)),`(λm=>if m=$a then x else c m),`(λx H' fr q s=>$a d fr q s),`(mKP (NZ a iM later $a)),`(GY aL T.Em.c T.Ks.h (Af3 $a) $b T.Ks.b .nil Ay),`(⟨dx,_,$a,rfl,rfl,rfl,rfl,rfl,rfl⟩),`(G[r]? =bJ ->JG VA $a v (GB g iM r)),`(CU (HA K) (CU (HA K) (Bo 2) (tC cB)) $a),`(λz=>if z=$a then y else AT z),`(∀c o,c≠p->H c=aH ->$a c=aH),`(QW (rZ AcU) rfl T.AcO AcP $a),`((AT,by rw[Ah $a];exact t1,a3)),`(Ah (λz=>by rw[z,$a:term] at h;cases h))]
def W_67(a b c d e f:W_T):List W_M:=[`([bP,mG ac,mG ca,mA3 mW,mG B,oZ oK $a,mG R,none,none,aq]),`([bP,mG ac,mG ca,mA3 mW,mG B,aDa,mG $a,none,none,mHm aDz]),`(by rw[Ask (nS $a).1];exact $a),`(mI (2,_,mI $a,5)),`($a+A.length),`(AN $a (b+(mBc i (r.take j)).length) (Bd (i+j) f)),`($a (i+1) (b+(Bd i a).length) r),`(pI t.A_ (AfJ aJ d f $a)),`(Bx aL T.B6.c T.Ix.h (Xj T) bR T.Ix.b .nil Ay $a),`(mI (by rw[show c=p from e];exact $a)),`(by rw[e,$a:term] at br;cases br),`($a j f[j] _ (mJ c1) aJg),`(mV $a $b (λe=>by injection e with _ _ e;cases e)),`($a _ _ this (λe=>by rw[e,$b:term] at this;cases this)),`((_,EU (cQ+$a),xC od $b,2,go.symm)),`(V.int ((((1<<<$a)<<<bX:Nat)):Int)),`(by have:=JQ $a aU 0;rwa[AsZ] at this),`($a λk=>(wd k).CO.A2.length),`(Ou M (mBe $a i) (mBe $a (i+1))),`(λi q e=>$a (h.GJ i q e)),`($a c u e (λz=>by rw[z,$b:term] at e;exact aOW)),`(⟨$a,by simp,λx hx y hy e=>by rw[Atb.mp hy] at e;rw[e] at hx;exact $b hx⟩),`(Qk t $a p dx m st Aq ms A7 S so SA OA),`(∀(i:Nat)(r:Addr),rs[i]? =mB r->Hl $a r (yH i) (A7 i)),`(Xt (a:=(gK,A7 j,)) kn.Ov $a $b),`(⟨_,rfl,p,_,_,_,rfl,$a,T.EN.c,$b,$c,?_⟩),`(fh _ _ $a (fk e6.GJ $a (λi=>(λi e=>by injection e with _ _ e;injection e with _ e;injection e with _ e;cases e) i))),`(WN aJ st Fx r.length r $a rfl $b),`(GK t Z H $a r up c d sa a0 a1 used),`(vM (mQ8 (Ad cJ (Ad $a (uV cJ))))),`(($a++[$b]).map V.ref++[nC $c]=(($a++[$b])++[$c]).map V.ref),`(⟨_,rfl,p,_,_,_,rfl,$a,T.Df.c,$b,$c,?_⟩),`(Kgz2.first (E2 Z.m) (Z.st.map C5) Z.Aq $a),`($a (((iv $b).length:Nat):Int)),`(Br 0 0 m.feet++[1<<<($a $b).length]),`(HT.AK z.length $a $b),`(["self",$a,"rest","used","room"]),`(Builtin.SmallTypes.nextOf ($a $b)),`(match Kgz1.measured $a $b with|none=>_|some x=>_),`([$a,"word","cost"]),`(["self","places","sorts",$a]),`([$a,"foot_count"]),`($a X.prog X.w),`((99,v.W|||$a,Hd v.r $b,Hd v.c $c)),`($a $b $c (BB x) false),`(mZ (Ats hz rfl (x:= mF $a) rfl $b)),`(mCd $a V.str ⟨#[M]⟩),`($a (A:=X.A.in1) (m.ok.hd hc) it $b t),`(Txt $a mg t),`(mNo (CG $a (CG $b F2))),`(mEu la (.dK (ls++[(mH (v.W:$a),$b s,)]))),`((An $a).length+1),`(mY ($a×$a)),`([("places",$a f,),("sorts",$a SA,),("views",$a VA,)]),`(.Al [V.int (($a $b).F0:$c),V.int (($a $b).Ej:$c),V.int (($a $b).Ek:$c)]),`(Shared.heap (hp.push {cls:= .type $a,data:= .fields $b},g,d,tk,os)),`(PySem.W.findIn $a ($b C) $c),`(Ae $a $b p ys/\∀l,$b l=none->Q (mF l) (nX l (.Al ys))),`(j.DV (a:=s.heap.objs.size) (o:= $a) (t':=s.toks) aLf aF ($b s.heap j.Kl)),`(KO $a (1<<<(b+A.length)) (w.getD j 0==45) (decide (j+1=w.length)) (a.contains j)),`(Bx aX T.B_.c T.Km.h (Afz T 12) eE T.Km.b .nil Ay $a),`(mJ (show $a - 1 - $b<$a by rw[ArX];omega))]
def W_68(a b c d e f:W_T):List W_M:=[`(Bx aL T.B6.c T.Kv.h (Ael T) dR T.Kv.b .nil Ay $a),`((mC $a h.f,aWv,mC $a h.d,aWw,h.nn,h.nd,mX h.st $a,aYo,149)),`((IU,(λz=>by rw[z,h.f] at hc;cases hc),λκ r=>?_,by rw[$a:term];simp)),`((∀c u,c≠b->$a c=aM ->H1 c=aM)/\H1 b=mB (.Bw od (.dK $b))),`(NX X.E.T κ.w (1<<<κ.p) _ kb.w $a),`(nB t.Cp [("most",mE (ms:$a),),("room",mE 256,)]),`(nN ($a e9 Y (.dK [])) (.Ag t.A_ dx aOX)),`(EV $a used sa (Ex Z r) $b),`(if $a=f then($a,v,)::r else($a,$b,)::Cn f v r),`(.Ac (oX (4:$a).toNat [mKQ mQ $b $a]).flatten),`(BX (iv b) ((a:Int)+$a))]
def W_L:List (String×(W_T→W_T→W_T→W_T→W_T→W_T→List W_M)):=[("a",W_0),("b",W_1),("c",W_2),("d",W_3),("e",W_4),("f",W_5),("g",W_6),("h",W_7),("i",W_8),("j",W_9),("k",W_10),("l",W_11),("m",W_12),("n",W_13),("o",W_14),("p",W_15),("q",W_16),("r",W_17),("s",W_18),("t",W_19),("u",W_20),("v",W_21),("w",W_22),("x",W_23),("y",W_24),("z",W_25),("aA",W_26),("aB",W_27),("aC",W_28),("aD",W_29),("aE",W_30),("aF",W_31),("aG",W_32),("aH",W_33),("aI",W_34),("aJ",W_35),("aK",W_36),("aL",W_37),("aM",W_38),("aN",W_39),("aO",W_40),("aP",W_41),("aQ",W_42),("aR",W_43),("aS",W_44),("aT",W_45),("aU",W_46),("aV",W_47),("aW",W_48),("aX",W_49),("aY",W_50),("mA",W_51),("mB",W_52),("mC",W_53),("mD",W_54),("mE",W_55),("mF",W_56),("mG",W_57),("mH",W_58),("mI",W_59),("mJ",W_60),("mK",W_61),("mL",W_62),("mM",W_63),("mN",W_64),("mO",W_65),("mP",W_66),("mQ",W_67),("mR",W_68)]
def W_I(c:Char):Nat:=if c.isLower then c.toNat-97 else if c.isUpper then c.toNat-39 else c.toNat+4
def W_G(p:String)(i:Nat)(z:Array W_T):W_M:=let h:=fun i=>z.getD i default;match W_L.lookup p with|some w=>((w (h 0) (h 1) (h 2) (h 3) (h 4) (h 5))[i]?).getD W_U|_=>W_U
def W_A(c:Char)(z:Array W_T)(f:Array W_T→W_M):W_M:=if c<'m'&&!z.isEmpty then do let t←f #[];`(($t) $z*) else f z
def W_W(s:String)(z:Array W_T):W_M:=match s.toList with|[a,b]=>if a.isLower&&b.isUpper then W_A a z (W_G a.toString (W_I b-26)) else W_U|[a,b,c]=>if a.isLower&&b.isUpper then W_A a z (W_G (a.toString++b.toString) (W_I c)) else W_U|_=>W_U
def W_N(z:Array W_T):Lean.Name→W_M|.str .anonymous s=>W_W s z|.str p s=>do let t←W_N #[] p;let t:W_T:=⟨.node .none `Lean.Parser.Term.proj #[←`(($t)),Lean.mkAtom ".",Lean.mkIdent (.mkSimple s)]⟩;if z.isEmpty then return t else `($t $z*)|_=>W_U
local macro_rules|`($x:ident)=>W_N #[] x.getId|`($f:ident $z*)=>W_N z f.getId
def W_C:List (Lean.MacroM (Lean.TSyntax `term)):=[`(⟨_,rfl⟩),`(⟨_,_,_,_,_,_,_,_,_⟩),`(⟨rfl⟩),`(⟨_,0⟩),`(⟨by omega⟩),`(⟨?_⟩),`(⟨coA,coA,coA,coA,coA,coA,coA,coA,coA⟩),`(⟨0,p,_⟩),`(⟨3,2⟩),`(⟨by simp⟩),`(⟨atA,atA,atA⟩),`(⟨1,1,1,1,1,1,1,1,1⟩),`(⟨by decide+kernel⟩),`(⟨8,trivial⟩),`(⟨none,none⟩),`(⟨noA,noA,noA,noA,noA,noA,noA,noA⟩),`(⟨0,0⟩),`(⟨7,dx,3⟩),`(⟨7,dx,fs,0⟩),`(⟨_,_⟩),`(⟨by show 2<=sizeLine;decide⟩),`(⟨by decide⟩),`(⟨0,X.F,X.dF,0⟩),`(⟨by rw[Af];simp⟩),`(⟨3,hb.at_,T.CW.c⟩),`(⟨coA,coA,coA,coA⟩),`(⟨T.DQ.c,T.GZ,2⟩),`(⟨X.F,_,X.dF,3⟩),`(⟨0,Z.p,_,Z.dx,3⟩),`(⟨2,2⟩),`(⟨2,0⟩),`(⟨T.Df.c,T.Jt,2,Z.SP,_,Z.dS,3⟩),`(⟨0,p,dx⟩),`(⟨T.Ca.c⟩),`(⟨by rw[ArX];omega⟩),`(⟨T.B6.c⟩),`(⟨_,8⟩),`(⟨j.os,j.DM,j.base,j.EX,j.cell,j.free,j.Gn⟩),`(⟨T.BF.c,T.Js⟩),`(⟨x,_,dx,3,hx',T.E9.c,T.LX,2⟩),`(⟨16,0⟩),`(⟨by simp;omega⟩),`(⟨aAB,2,Av,by rw[BT];omega⟩),`(⟨L,36,mN y,aIc,0,L,36,mN y,N 1 e rfl⟩),`(⟨dJ,dJ,dJ,dJ⟩),`(⟨T.CN.c⟩),`(⟨T.B_.c⟩),`(⟨T.En.c⟩),`(⟨19,19⟩),`(⟨rest,used,u,room,2,ok⟩),`(⟨T.De.c⟩),`(⟨5,5,5⟩),`(⟨bB,0,7,3,Af⟩),`(⟨T.Eo.c,T.LY⟩),`(⟨by show(rest:Int)<=1000;omega⟩),`(⟨8,0,5⟩),`(⟨0,Z.p,Z.dx,0⟩),`(⟨atA,clA⟩),`(⟨none⟩),`(⟨T.EN.c⟩),`(⟨(0)⟩),`(⟨T.DQ.c,T.N7⟩),`(⟨T.Fm.c,T.N9⟩),`(⟨18,u,b.B6.c⟩),`(⟨33,T.NH,hF.Cq⟩),`(⟨T.E9.c⟩),`(⟨T.Em.c⟩),`(⟨T.Df.c,T.NG,2⟩),`(⟨es,ep⟩),`(⟨0,7,3,hp⟩),`(⟨T.Df.c,T.Jt,2,SP,_,dS,3⟩),`(⟨"str",_,F.plainAttrs_str,slot,ty,uR AuH,aTh⟩),`(⟨t.FT,36,Pt T⟩),`(⟨32,fs,2⟩),`(⟨T.CW.c⟩),`(⟨(show(aFn) a=_ by rw[Ah ne];exact kn.at_)⟩),`(⟨noA,noA,noA,noA⟩),`(⟨0,a⟩),`(⟨0,R,36,nO (oN r m),cN,g,36,nO (oN u he)⟩),`(⟨30,5⟩),`(⟨T.Fm.c,T.N8⟩),`(⟨2,p,dx,a⟩),`(⟨d,e,m,l,2,mD7 0 d m,mD7 1 e l,r m aC,k⟩),`(⟨18,m,b.B6.c⟩),`(⟨30,b,_⟩),`(⟨trivial⟩),`(⟨2,Fr.refl⟩),`(⟨35,T.IF⟩),`(⟨Af,2⟩),`(⟨T.Df.c,T.Vw,2,Z.X.F,Z.X.dF,0,fs.f,84⟩),`(⟨qB 1⟩),`(⟨bY,8,12,fT⟩),`(⟨7,dx,CJ a aIa,0,Af⟩),`(⟨T.BF.c⟩),`(⟨sh,_,m,3,mC j o,26⟩),`(⟨b.size,b.Gj,b.ends⟩),`(⟨19,H1,2⟩),`(⟨7,3⟩),`(⟨ct[i],by rw[fP,hg],by rw[mJ C],2⟩),`(⟨false⟩),`(⟨by rw[pi.1 D (Asr d8)];exact Af⟩),`(⟨0,19,dx,3,mC Ju bo,62,30,q,19⟩),`(⟨46,T.NC,30,X.D,0⟩),`(⟨by rw[uZ nb v.c0];exact wV ap⟩),`(⟨aB6.symm⟩),`(⟨T.IE.c,T.RB⟩),`(⟨T.IE.c,T.RC⟩),`(⟨33,T.RS,hF.feet⟩),`(⟨T.Eo.c,T.RV⟩),`(⟨77,_,d,3,ha⟩),`(⟨17,hp,45,T.NB,2⟩),`(⟨3,kn.at_,45⟩),`(⟨kn.at_,2,40,a,g,ah,aj,ak,κ⟩),`(⟨0,p,am,an,2⟩),`(⟨16,q,_,b1,3,qY b4,47,T.Ph,2⟩),`(⟨50,T.ND,2,8⟩),`(⟨mgA,tuA,mgA,tuA⟩),`(⟨0,t.LS,0,mI (Adc T),2,12,0⟩),`(⟨ok.fw,fs,hb.IZ,hb.c0,hb.c1⟩),`(⟨g.dx,g.fo,g.so⟩),`(⟨by rw[Ah (M ce)];exact ce⟩),`(⟨24,T.RQ,2,Z.X,o,n,d,sa,a0⟩),`(⟨40,C,36,nD s5 B,G M hc,0⟩),`(⟨0,sh,_,n,3⟩),`(⟨7,c,d,0,f,66,T.Pe,g.pl,a⟩),`(⟨s1.heap.objs.size,aNY,96⟩),`(⟨n - (i+1),4,2⟩),`(⟨16,x,8,d,Sc c⟩),`(⟨λj p x h=>by simp at h⟩),`(⟨7,dx,aM8,0,Af⟩),`(⟨λ_ _ h=>h,λ_ _ h=> jY⟩),`(⟨q,_,ay,3⟩),`(⟨x,_,dx,3⟩),`(⟨room - G.Bl,(mAB he),ok⟩),`(⟨60,60,60⟩),`(⟨rest,room,used,2,kn.at_⟩),`(⟨by rw[Tc];exact Xg aA,5⟩),`(⟨21,21,(mHf 4)⟩),`(⟨29,29,29⟩),`(⟨b,_,g,24,T.NF,2,i,0,aPg⟩),`(⟨sa,a0,a1,used⟩),`(⟨b,_,I,3,J.at_,74,T.Pn,2⟩),`(⟨B,_,G.Ro e (j.Rn hd n)⟩),`(⟨nH g,i.same s,j.same s⟩),`(⟨H,fO,bY,q⟩),`(⟨77,19,rX x,29,mN D,cN⟩),`(⟨77,19,rX y,29,mN D,dW⟩),`(⟨L,36,mN C⟩),`(⟨b.RH,hF.cuts⟩),`(⟨λb e=>?_,eH⟩),`(⟨0,d,36,nO (nP G sK f)⟩),`(⟨47,T.Pk,2,sh⟩),`(⟨17,N,66,T.Pf⟩),`(⟨by simpa using B.len⟩),`(⟨h.nd,h.pw,h.len,h.ER⟩),`(⟨sh,_,m,3,mC I o,61,2⟩),`(⟨b.inner,mEz l b.cuts⟩),`(⟨by rw[ArY,mJ aA];rfl⟩),`(⟨λq=>by injection q⟩),`(⟨T,id,j,slot,n,h1,h2⟩),`(⟨.int _,H,j.CF hk,bY⟩),`(⟨by rw[ArX];exact hz⟩),`(⟨14,58⟩),`(⟨33,T.RU,ak,0,8,L,36⟩),`(⟨16,mF mp,99,l,2,aUO⟩),`(⟨0,n,36,mN g,cN,0,43⟩),`(⟨77,_,e,3,ha⟩),`(⟨85,λod=>?_⟩),`(⟨by rw[ArX];exact aF⟩),`(⟨a.size,a.Gj⟩),`(⟨50,T.NE⟩),`(⟨59,T.Pl⟩),`(⟨q,_,l,3⟩),`(⟨λb o e n hb hx=>?_⟩),`(⟨B.ok,B.os,B.DM,aQt⟩),`(⟨37,j.FH,j.Av,j.len⟩),`(⟨0,mp,_⟩),`(⟨fs,0,g1,33,T.Vy,g3⟩),`(⟨2,16⟩),`(⟨κ,a,2⟩),`(⟨b,eW,l,mH m.d,2,aj⟩),`(⟨by rw[Af];simp[FB]⟩),`(⟨c,3,aPe,74,T.Pm,30⟩),`(⟨by unfold Ex;omega⟩),`(⟨atA,57⟩),`(⟨ae,af⟩),`(⟨by simpa using hs⟩),`(⟨aAy,aLH,96⟩),`(⟨by rw[ArY,fP];rfl⟩),`(⟨fV,5⟩),`(⟨2,Af⟩),`(⟨pc,36,nO G⟩),`(⟨0,h,3,aZ,3⟩),`(⟨32,0⟩),`(⟨b.RJ,hF.Wx,0,f,36⟩),`(⟨84,db,3,hb⟩),`(⟨104,(Ase a5).symm⟩),`(⟨by rw[ArY,cW];rfl⟩),`(⟨104,(Ase ck).symm⟩),`(⟨0,q,_,c3,3⟩),`(⟨uI b8 cg,uI b9 ch⟩),`(⟨2,(cy.same c8).ky⟩),`(⟨λ_ e=>nomatch e⟩),`(⟨by rw[<-r];rfl,u⟩),`(⟨b.RI,hF.inner,13⟩),`(⟨p.1,p.2,rest - 1⟩),`(⟨77,g,0,112,AA,ai⟩),`(⟨0,ST,36,mN et,eu⟩),`(⟨67,Z.X.P,an,ao,2⟩)]
local macro_rules|`(($x,$y,*))=>do
 let a:=#[x]++y.getElems
 if y.elemsAndSeps.size%2==0 then
  let n:=a.size
  return(←(a.extract 0 (n-1)).foldrM (fun x r=>`(Prod.mk $x $r)) a[n-1]!)
 let r←a.mapM fun z=>do
  match z.raw.isNatLit? with
  |some k=>return(←W_C[k]?.getD Lean.Macro.throwUnsupported).raw[1].getSepArgs.map (⟨·⟩)
  |_=>return #[z]
 let r:Array (Lean.TSyntax `term):=r.flatten
 if r.size==a.size then `(⟨$r,*⟩) else
  let x:=r[0]!
  let s:=r.extract 1 r.size
  `(($x,$s,*))
namespace Vf
open Kgz2 (Row goOn rows before)
def FY(N:Nat):Nat->Row->Nat->mY Row
 |0,_,_=>[]
 |n+1,r,u=>aVs.flatMap λk=>eI::goOn N n eI
theorem N_(N n:Nat)(r:Row)(u:Nat):mGz u=aVs.flatMap λk=>eI::goOn N n eI:=rfl
theorem PD(N n:Nat)(r:Row):yA (n+1)=(kO.filter λk=> !(vS k)).flatMap λk=>eI::goOn N n eI:=rfl
theorem WF(N n:Nat)(r:Row):yA n=FY N n r 0:=by
 cases n with
 |zero=>rfl
 |succ n=>
  congr 2
theorem AnV(N n:Nat)(r:Row):FY N n r N=[]:=by
 cases n with
 |zero=>rfl
 |succ n=>
  rw[N_];have:kO.filter (λk=>decide (N<=k)&& !(vS k))=[]:=by rw[Au6];grind
  rw[this];rfl
theorem AnW(N u:Nat)(p:Nat->Bool)(h:u<N):kO.filter aVt=(if p u then[u] else[])++kO.filter aVu:=by
 induction N with
 |zero=>omega
 |succ N a=>
  rw[Atl,Ath,Ath];by_cases e:u=N
  .subst e;have h0:(oP u).filter aVt=[]:=by
    rw[Au6];grind
   have b:(oP u).filter aVu=[]:=by rw[Au6];grind
   grind
  grind
def block(N n:Nat)(r:Row)(k:Nat):List Row:=if vS k then[] else eI::goOn N n eI
theorem S7(N n:Nat)(r:Row)(u:Nat)(h:u<N):mGz u=mJ2 u++FY N (n+1) r (u+1):=by
 rw[N_,N_,AnW N u (λk=> !(vS k)) h,List.flatMap_append];congr 1;unfold block
 cases hc:vS u<;>simp
theorem Mm(N:Nat):∀(n:Nat)(r x:Row),x∈yA n->∃k t,x=r++k::t
 |0,r,x,h=>by simp[goOn] at h
 |n+1,r,x,h=>by
  rw[PD,AuK] at h;obtain⟨k,_,h⟩:=h;rcases gO with rfl|h
  .exact(k,[],2)
  obtain⟨k',t,rfl⟩:=aNE;exact(k,k'::t,9)
theorem AnX(h:x∈mJ2 k):∃t,x=r++k::t:=by
 unfold block at h;split at h
 .simp at h
 rcases gO with rfl|h
 .exact([],2)
 obtain⟨k',t,rfl⟩:=aNE;exact(k'::t,9)
theorem WG(h:x∈FY N n r u):∃k t,u<=k/\x=r++k::t:=by
 cases n with
 |zero=>simp[FY] at h
 |succ n=>
  rw[N_,AuK] at h;obtain⟨k,hk,h⟩:=h;simp at hk;rcases gO with rfl|h
  .exact(k,[],hk.2.1,2)
  obtain⟨k',t,rfl⟩:=aNE;exact(k,k'::t,hk.2.1,9)
theorem PF:∀(p a b:Row),before (p++a) (p++b)=mEd b
 |[],a,b=>rfl
 |x::p,a,b=>by
  simp only[List.cons_append,before];simp[PF p a b]
def Dr:Row->Row-> jL
 |pre,[]=>[(pre,0,)]
 |pre,k::a=>(pre,k+1,)::Dr aIp a
def BK(N Aq:Nat):jL ->mY Row
 |[]=>[]
 |x::L=>wP L++mJ3 Aq
theorem Mn(N Aq:Nat):∀(L M:jL),wP (L++M)=wP M++wP L
 |[],M=>by simp[BK]
 |x::L,M=>by simp only[List.cons_append,BK,Mn N Aq L M,List.append_assoc]
theorem Ae3(N n:Nat)(r a:Row)(k:Nat)(hk:k<=N):∀(d j:Nat),k - j=d->j<=k->(mGz j).filter aNF=(mGz k).filter aNF
 |0,j,b,c=>by
  obtain rfl:j=k:=aA;rfl
 |d+1,j,b,c=>by
  rw[S7 N n r j aA,Ath,Ae3 N n r a k hk d (j+1) aA aA];have:(mJ2 j).filter aNF=[]:=by rw[Au6];intro x hx;obtain⟨t,rfl⟩:=AnX hx;rw[PF];simp only[before];grind
  rw[this,Atz]
theorem WH(N Aq:Nat):∀(a pre:Row),pre.length+a.length<=Aq-> aIq ->(pre++a).Nodup->
 (goOn N (Aq - pre.length) pre).filter (before (pre++a))=wP aIr
 |[],pre,b,_,_=>by
  unfold Dr BK BK;rw[Atz,<-WF,List.filter_eq_self];intro x hx;obtain⟨k,t,rfl⟩:=Mm N _ _ x hx;rw[PF];rfl
 |k::a,pre,b,c,hd=>by
  have hk:=c k aC;rw[As1] at b;obtain⟨n,d⟩:∃n,Aq - pre.length=n+1:=(mBj Aq pre.length);have hc:pV pre.contains k:=by
   rw[AsT] at hd
   cases h:pre.contains k with
   |false=>rfl
   |true=>exact uK (hd.2.2 k fE k aC)
  have e:=WH N Aq a aIp dM (λx hx=>pH c x hx) (mR hd);rw[WF,d,Ae3 N n pre a k aA k 0 aA aA,S7 N n pre k hk,Ath];unfold Dr BK;rw[<-e,d];congr 1
  .unfold block;have f:before (pre++k::a) aIp=false:=by
    rw[PF]
    cases a<;>simp[before]
   grind
  rw[List.filter_eq_self];intro x hx;obtain⟨k',t,g,rfl⟩:=WG hx;rw[PF];simp only[before];rw[mU aA];rfl
theorem AnY(N Aq:Nat)(a:Row)(s:Row->Bool)(d:aNG)(f:aIq)(hd:a.Nodup):
 (rows N Aq).find? (mOt a)=(wP aE2).find? s:=by
 rw[<-(mOu d f),List.find?_filter,Atz];have:∀l:mY Row,(∀x∈l,x≠[])->l.find? (mOt a)=l.find? (λr=>mEd r&&s r):=by
  intro l
  induction l with
  |nil=>intro _;rfl
  |cons x l g=>
   intro hx;have e:(a==[]||mEd x)=before a x:=by
    cases a with
    |nil=>
     cases x with
     |nil=>exact uK (hx [] aC)
     |cons=>rfl
    |cons b c=>
     rfl
   grind
 have h:(λi=>decide (mEd i=true/\s i=true))=λr=>mEd r&&s r:=by simp
 rw[h];refine this _ λx hx=>?_;obtain⟨k,t,rfl⟩:=Mm N _ _ x hx;simp
theorem Ae4(N Aq:Nat)(L:jL)(r:Row):mCn Aq N=BK N Aq L:=by rw[Mn];simp[BK,AnV]
theorem Ae5(N Aq:Nat)(L:jL)(r:Row)(u:Nat)(h:u<N)(hs:mGA Aq u):mCn Aq u=BK N Aq aE3:=by
 rw[Mn,Mn];congr 1;simp only[BK];rcases hs with hs|hs
 .rw[show Aq - r.length=0 by omega];rfl
 cases a:Aq - r.length with
 |zero=>rfl
 |succ n=>
  rw[S7 N n r u h];unfold block;rw[hs];rfl
theorem PH(N Aq:Nat)(L:jL)(r:Row)(u:Nat)(h:u<N)(a:r.length<Aq)(b:aDk):
 BK N Aq (L++[(r,u,)])=(fD::mOv Aq)++BK N Aq aE3:=by
 rw[Mn,Mn];simp only[BK];obtain⟨n,c⟩:∃n,Aq - r.length=n+1:=(mBj Aq r.length);have d:Aq - fD.length=n:=dM;rw[c,d,S7 N n r u h];unfold block;grind
theorem Ae6(N Aq:Nat)(L:jL)(r:Row):mCn Aq 0=yA (Aq - r.length)++BK N Aq L:=by rw[Mn];simp only[BK,List.nil_append,<-WF]
theorem Arl:∀{n:Nat}{r x:Row},x∈yA n->r.length<x.length:=λh=>by obtain⟨k,t,rfl⟩:=Mm N _ _ _ h;simp
theorem Aga{l:cL}(h:mHE p):l.filter p=[]:=by simp_all
theorem Agb(N:Nat):∀(n' n:Nat)(r:Row),n'<=n->yA n'=(yA n).filter λx=>decide (x.length<=r.length+n')
 |0,n,r,_=>by
  rw[Aga λx hx=>mS (mCQ Arl hx)];rfl
 |n'+1,0,r,h=>by omega
 |n'+1,n+1,r,h=>by
  rw[PD,PD,AvB];congr 1;funext k;rw[AuJ,mK (mU aC),aX0];grind
theorem Arm(N:Nat)(n' n:Nat)(r:Row)(u:Nat)(h:n'<=n):FY N n' r u=(FY N n r u).filter λx=>decide (x.length<=r.length+n'):=by
 cases n' with
 |zero=>
  rw[Aga λx hx=>Ar_ (by obtain⟨k,t,_,rfl⟩:=WG hx;simp)];rfl
 |succ n'=>
  cases n with
  |zero=>omega
  |succ n=>
   rw[N_,N_,AvB];congr 1;funext k;rw[AuJ,mK (mU aC),aX0];grind
theorem Xw(N ms Aq:Nat)(h:ms<=Aq):∀(L:jL),aJz=(wP L).filter λx=>decide (x.length<=ms)
 |[]=>rfl
 |x::L=>by
  show aJz++mJ3 ms=(wP L++mJ3 Aq).filter _;rw[Ath,Xw N ms Aq h L,Arm N (ms - x.1.length) (Aq - x.1.length) x.1 x.2 aA];congr 1;apply Av_;intro y hy;by_cases e:x.1.length<=ms
  .grind
  have:x.1.length<y.length:=by obtain⟨k,t,_,rfl⟩:=WG hy;simp
  grind
theorem Xx:∀{n:Nat}{r x:Row},x∈yA n->r.Nodup-> aE4 ->x.Nodup/\ aPb /\x.length<=r.length+n
 |0,r,x,h,_,_=>by simp[goOn] at h
 |n+1,r,x,h,hd,d=>by
  rw[PD,AuK] at h;obtain⟨k,hk,h⟩:=h;rw[AtO] at hk;have e:k∉r:=by have:=hk.2;simp at this;exact this
  have f:eI.Nodup:=by grind
  have g:∀j∈r++[k],j<N:=λj hj=>by grind
  rcases gO with rfl|h
  .exact(f,g,9)
  obtain⟨a,b,c⟩:=Xx h f g;exact(a,b,by simp at c;omega)
theorem Agc:∀{l:cL},(∀x∈l,p x=q x)->l.find? p=l.find? q
 |[],_=>rfl
 |x::l,h=>by
  rw[Av7,Av7,h x aC,Agc λy hy=>pH h y hy]
theorem Agd(b:aNG)(c:aIq)(hd:a.Nodup)(h:x∈wP aE2):x.Nodup/\ aPb /\x.length<=Aq:=by rw[<-mOu b c,AtO] at h;obtain⟨d,e,f⟩:=Xx h.1 Auw aC;exact(d,e,by simp at f;exact f)
theorem Arn(h:ms<=Aq)(b:aNG)(c:aIq)(hd:a.Nodup)(hs:∀x,x.Nodup-> aPb ->x.length<=Aq->s x=true->x.length<=ms):
 (wP aE2).find? s=(BK N ms aE2).find? s:=by
 rw[Xw N ms Aq h,List.find?_filter];refine Agc λx hx=>?_;obtain⟨d,f,g⟩:=Agd b c hd hx
 cases e:s x with
 |false=>simp
 |true=>simp[hs x d f g e]
def HU(N:Nat):jL ->Nat
 |[]=>0
 |x::L=>(N+1 - x.2)+HU N L
theorem JM(N:Nat):∀(L M:jL),HU N (L++M)=HU N L+HU N M
 |[],M=>by simp[HU]
 |x::L,M=>by simp only[List.cons_append,HU,JM N L M];omega
def Gc(N ms:Nat)(L:jL):Nat:=aJz.length*(N+2)+HU N L
theorem Aro:Gc N ms L<Gc N ms (L++[(r,N,)]):=by unfold Gc;rw[Ae4,JM];simp[HU]
theorem Arp(h:u<N)(hs:mGA ms u):mLh aE3:=by unfold Gc;rw[aX1,JM,JM];simp only[HU];omega
theorem Arq(h:u<N)(a:aFH)(b:aDk):mLh aE3:=by unfold Gc;rw[aFI,JM,JM,Asi,AvL];simp only[HU];omega
theorem Arr(h:u<N)(a:aFH)(b:aDk):mLh (mLi L):=by unfold Gc;rw[Ae6,aFI,JM,JM,JM];generalize goOn N (ms - fD.length) fD=G;generalize BK N ms aE3=R;rw[Asi,Asi,As1,AvL,AvL,AvL];simp only[HU];omega
theorem Ars:(mCn ms N).find? s=aJz.find? s:=by rw[Ae4]
theorem Art(h:u<N)(hs:mGA ms u):aX2:=by rw[aX1]
theorem Aru{l m:cL}(h:mHE p):(l++m).find? p=m.find? p:=by grind
theorem Arv(h:u<N)(a:aFH)(b:aDk)(hs:∀x t,x=fD++t->x.length<=ms->x∈ fD::mOv ms ->s x=false):aX2:=by
 rw[aFI];refine Aru λx hx=>?_;have hlen:fD.length<=ms:=dM;rcases pN hx with rfl|hx'
 .exact hs _ [] aC hlen hx
 obtain⟨k,t,e⟩:=Mm N _ _ _ hx';have:x.length<=ms:=by
  have key:∀(n:Nat)(r x:Row),x∈yA n->x.length<=r.length+n:=by
   intro n
   induction n with
   |zero=>intro r x h;simp[goOn] at h
   |succ n c=>
    intro r x h;rw[PD,AuK] at h;grind
  have:=rW key hx';omega
 exact hs x (k::t) e this hx
theorem Arw(h:u<N)(a:aFH)(b:aDk)(hs:nI s fD):oB (mCn ms u).find? s fD:=by rw[aFI,At8,Av7,hs]
theorem Arx(h:u<N)(a:aFH)(b:aDk)(hs:pV s fD):(mCn ms u).find? s=(BK N ms (mLi L)).find? s:=by rw[aFI,Ae6,At8,Av7,hs]
theorem Age:∀(a pre:Row),aIr.length=a.length+1
 |[],_=>rfl
 |k::a,pre=>by simp[Dr,Age a]
end Vf
namespace Vf
open Kgz1
abbrev Txt:=aB
def Ge(p c:Nat):Bool:=c==104||(c==117&&p==113)
def Cg:Nat->Txt-> dL
 |_,[]=>[]
 |p,[c]=>if aA1 then[] else[[c]]
 |p,c::d::r=>
  if aDJ then(if aA1 then Cg d r else[c,d]::Cg d r)
  else(if aA1 then Cg c kU else[c]::Cg c kU)
def BO:Txt->Sound
 |[c]=>if aFM then .vowel false else if mEL c then .vowel true else .cons c
 |_=> .vowel true
theorem O0(p c:Nat):aA1=true↔(c=104\/(c=117/\p=113)):=by simp[Ge]
theorem Agx(h:aDJ=true)(p:Nat):aA1=false:=by simp[isPair] at h;rcases h with⟨rfl,_⟩|⟨rfl,_⟩|⟨rfl,_⟩|⟨rfl,_⟩<;>simp[Ge]
theorem Mw:∀(p:Nat)(w:Txt),(Cg p w).map BO=sounds p w
 |_,[]=>by simp[Cg,sounds]
 |p,[c]=>by
  simp only[Cg,sounds];by_cases h:aA1=true
  .rw[fZ,mK (aJK.mp h)];rfl
  rw[gM,vA h aJL];simp only[List.map_cons,List.map_nil,BO]
  repeat' split
  all_goals rfl
 |p,c::d::r=>by
  simp only[Cg,sounds];by_cases h:aDJ=true
  .have hs:=Agx h p;rw[fZ,mM (by simp[hs]),mM (λq=>by rw[aJL] at hs;cases hs),fZ];simp only[List.map_cons,BO,Mw d r]
  rw[gM];by_cases hs:aA1=true
  .rw[mK hs,mK (aJK.mp hs)];exact Mw c kU
  rw[mM hs,vA hs aJL,gM];simp only[List.map_cons,BO,Mw c kU]
  repeat' split
  all_goals rfl
def Bs:iQ -> aB × aDK
 |[]=>([],[],)
 | .cons c::r=>(c::(Bs r).1,(Bs r).2,)
 | .vowel g::r=>([],(g,(Bs r).1,)::(Bs r).2,)
def Mx(c:Nat):Bool:=c==120||c==122
def Ez:aB ->Nat
 |[]=>0
 |[c]=>if Mx c then 3 else 1
 |[a,b]=>if mute a&&liquid b then 2 else 3
 |_=>3
def BE(w l:Nat):Nat:=if w=4\/l=0 then w else if w=0 then l else 3
structure BU where
 Bk:Nat
 A2:aB
deriving DecidableEq
def DU(s:iQ):BU:=(Ez (cR).1,(cR).2.map λx=>if x.1 then 3 else Ez x.2)
def BB(w:Nat):Nat:=if w=2 then 2 else if w=3 then 1 else 0
def Gf(ws:aB)(Bk:Nat):List Nat:=match ws.getLast? with
 |none=>[]
 |some x=>ws.dropLast++[BE x Bk]
def Gg(n:Nat):List Nat:=oX (n - 1) 0++[4]
def CZ(st:aDL)(sh:BU):aB ×List Nat:=
 if sh.A2=[] then(aFN,st.2,) else(aFN++sh.A2,st.2++aCf,)
def Jb(st:aDL):List Nat:=if st.1=[] then[] else mEM aJM st.2
def To(a:gA):List Nat:=aPs
def HV(ws:dL):List BU:=(left (ws.map (sounds 0))).map DU
def Ck(l:Txt):List Nat:=To (HV aFO)
abbrev Rw:=Bool× cA ×Nat
def Bm:aA2 -> cA × iR
 |[]=>([],[],)
 |(.cons c,w)::r=>((c,w,)::(Bm r).1,(Bm r).2,)
 |(.vowel g,w)::r=>([],(g,(Bm r).1,w,)::(Bm r).2,)
def fin:iR ->mY Syl
 |[]=>[]
 |[_]=>[(.either,true)]
 |x::y::r=>(if x.1 then .long else between x.2.1,aJN)::fin jU
theorem X2:∀l,upTo l=(Bm l).1
 |[]=>rfl
 |(.cons c,w)::r=>by simp only[upTo,Bm,X2 r]
 |(.vowel g,w)::r=>rfl
theorem X3:∀l,nextVowel l=(Bm l).2.head?.map (·.2.2)
 |[]=>rfl
 |(.cons c,w)::r=>by simp only[nextVowel,Bm,X3 r]
 |(.vowel g,w)::r=>rfl
theorem Tq:∀l,syls l=fin (Bm l).2
 |[]=>rfl
 |(.cons c,w)::r=>by simp only[syls,Bm,Tq r]
 |(.vowel g,w)::r=>by
  simp only[syls,Bm,X3,X2,Tq r]
  cases h:(Bm r).2 with
  |nil=>simp[fin]
  |cons y t=>simp[fin]
def Fy:iR -> cA -> iR
 |[],_=>[]
 |[x],l=>[(x.1,x.2.1++l,x.2.2,)]
 |x::y::r,l=>x::Fy jU l
theorem Tr:∀(A B:aA2),(Bm A).2=[]->Bm kW=((Bm A).1++(Bm B).1,(Bm B).2,)
 |[],B,_=>by simp[Bm]
 |(.cons c,w)::r,B,h=>by
  simp only[List.cons_append,Bm,(Tr r B h)]
 |(.vowel g,w)::r,B,h=>by simp[Bm] at h
theorem Ts:∀(A B:aA2),(Bm A).2≠[]->Bm kW=((Bm A).1,Fy (Bm A).2 (Bm B).1++(Bm B).2,)
 |[],B,h=>by simp[Bm] at h
 |(.cons c,w)::r,B,h=>by
  have a:=Ts r B h;simp only[List.cons_append,Bm,a]
 |(.vowel g,w)::r,B,h=>by
  by_cases e:(Bm r).2=[]
  .have a:=Tr r B e;simp only[List.cons_append,Bm,a,e,Fy,List.nil_append]
  have a:=Ts r B e;simp only[List.cons_append,Bm,a]
  cases h:(Bm r).2 with
  |nil=>exact nL h e
  |cons y t=>simp[Fy]
def C_:cA ->Nat
 |[]=>0
 |[(c,_)]=>if Mx c then 3 else 1
 |[(a,v),(b,w)]=>if v=w/\mute a=true/\liquid b=true then 2 else 3
 |_=>3
def wv(x:Rw):Nat:=if x.1 then 3 else C_ x.2.1
def Hm:Kind->Nat
 | .short=>0
 | .long=>1
 | .either=>2
theorem X4(c:Nat):1<=counts c:=by unfold counts;split<;>omega
theorem Tt(l:aB):∀a,l.foldl (·+·) a=a+l.foldl (·+·) 0:=by
 induction l with
 |nil=>intro a;rfl
 |cons x r b=>intro a;rw[Ati,Ati,b (a+x),b (0+x)];omega
theorem Agy:∀l,Hm (between l)=BB (C_ l)
 |[]=>by simp[between,C_,Hm,BB]
 |[(c,w)]=>by
  simp only[between,C_,Mx,List.map_cons,List.map_nil,List.foldl_cons,List.foldl_nil,counts];by_cases h:c=120\/c=122
  .rw[fZ];have:oO aPt:=fE;simp[this,Hm,BB]
  rw[gM];have:pG aPt:=fE;simp[this,Hm,BB]
 |[(a,v),(b,w)]=>by
  simp only[between,C_];split<;>simp[Hm,BB]
 |(a,v)::(b,w)::(c,x)::r=>by
  simp only[between,C_,List.map_cons,List.foldl_cons];rw[Tt];have d:=X4 a;have e:=X4 b;rw[fF];simp[Hm,BB]
def D7:iR -> aB
 |[]=>[]
 |[_]=>[4]
 |x::y::r=>(if y.2.2 != x.2.2 then 4 else 0)::D7 jU
theorem Tu(s:Syl):number s=Hm s.kind+if s.ends then 4 else 0:=by
 unfold number Hm
 cases s.kind<;>rfl
theorem X5:∀l:iR,(fin l).map number=Jb (sD wv,D7 l,)
 |[]=>by simp[fin,Jb]
 |[x]=>by simp[fin,Jb,D7,number]
 |x::y::r=>by
  have a:=X5 jU;simp at a⊢;simp only[fin,List.map_cons,D7,List.dropLast_cons_of_ne_nil (List.cons_ne_nil _ _),List.cons_append,List.zipWith_cons_cons,a];congr 1;rw[Tu];simp only[wv];by_cases g:x.1=true
  .simp[g,Hm,BB]
  simp only[g,Bool.false_eq_true,if_false,Agy]
theorem X6:∀(l:iR)z,D7 (Fy l z)=D7 l
 |[],_=>rfl
 |[x],z=>rfl
 |[x,y],z=>by simp[Fy,D7]
 |x::y::u::r,z=>by
  have a:=X6 (y::u::r) z;simp only[Fy,D7] at a⊢;rw[a]
theorem X7:∀(l:iR)z x,x∈Fy l z->∃y∈l,x.2.2=y.2.2
 |[],_,x,h=>by simp[Fy] at h
 |[y],z,x,h=>by
  simp only[Fy,List.mem_singleton] at h;exact(y,9,by rw[h])
 |y::u::r,z,x,h=>by
  simp only[Fy,List.mem_cons] at h;rcases h with rfl|h
  .exact(x,9,2)
  obtain⟨q,hq,e⟩:=X7 (u::r) z x h;exact(q,sE hq,e)
theorem X8:∀(A B:iR)(k:Nat),(∀x∈A,x.2.2<k)-> aPu ->D7 kW=D7 A++D7 B
 |[],B,k,_,_=>rfl
 |[x],[],k,_,_=>rfl
 |[x],y::r,k,ha,hb=>by
  have a:=ha x aC;have b:=hb y aC;have:oO aJN:=dM;simp only[List.cons_append,List.nil_append,D7,this,if_true]
 |x::y::r,B,k,ha,hb=>by
  have c:=X8 jU B k (λz hz=>pH ha z hz) hb;simp only[List.cons_append,D7] at c⊢;rw[c]
theorem Tv:∀(B:iR)(k:Nat),aPu ->B≠[]->D7 B=Gg B.length
 |[x],_,_,_=>rfl
 |x::y::r,k,h,_=>by
  have a:=h x aC;have b:=h y aC;have:pG aJN:=dM;simp only[D7,this,Bool.false_eq_true,if_false,(Tv jU k (λz hz=>h z (List.mem_cons_of_mem _ hz)) aC)];rfl
theorem Agz(A B:cA)(k:Nat)(ha:∀x∈A,x.2<k)(hb:∀x∈B,x.2=k):C_ kW=BE (C_ A) (C_ B):=by
 have pos:∀l:cA,l≠[]->C_ l≠0:=by
  intro l d
  match l,d with
  |[(c,_)],_=>simp only[C_];split<;>omega
  |[(a,v),(b,w)],_=>simp only[C_];split<;>omega
  |(a,v)::(b,w)::z::r,_=>simp[C_]
 have e:∀l:cA,C_ l<=3:=by
  intro l
  match l with
  |[]=>simp[C_]
  |[(c,_)]=>simp only[C_];split<;>omega
  |[(a,v),(b,w)]=>simp only[C_];split<;>omega
  |(a,v)::(b,w)::z::r=>simp[C_]
 unfold BE;by_cases f:B=[]
 .subst f;simp[C_]
 have g:=pos B f;rw[Asa (by intro h;exact h.elim (mCQ e A) g)];by_cases i:A=[]
 .subst i;simp[C_]
 rw[mM (pos A i)]
 match A,i,B,f with
 |[(a,v)],_,[(b,w)],_=>
  have j:=ha (a,v,) aC;have m:=hb (b,w,) aC;have:v≠w:=(by simp at j m;omega);simp[C_,this]
 |[(a,v)],_,(b,w)::y::r,_=>simp[C_]
 |(a,v)::(c,u)::r,_,(b,w)::t,_=>
  cases r with
  |nil=>simp[C_]
  |cons z r=>simp[C_]
theorem Qo(k:Nat):∀s:iQ,Bm (s.map λx=>(x,k,))=((cR).1.map λc=>(c,k,),(cR).2.map λx=>(x.1,x.2.map (λc=>(c,k,)),k,),)
 |[]=>rfl
 | .cons c::r=>by simp only[List.map_cons,Bm,Qo k r,Bs]
 | .vowel g::r=>by simp only[List.map_cons,List.map_nil,Bm,Qo k r,Bs]
theorem X9(k:Nat):∀l:aB,C_ (l.map λc=>(c,k,))=Ez l
 |[]=>rfl
 |[c]=>rfl
 |[a,b]=>by
  simp only[List.map_cons,List.map_nil,C_,Ez,true_and,Bool.and_eq_true]
 |a::b::c::r=>rfl
def Tw(k:Nat)(l:aA2):Prop:=∀x∈l,x.2<k
theorem Ty:∀(l:aA2)(P:Nat->Prop),(∀x∈l,P x.2)->(∀y∈(Bm l).1,P y.2)/\∀z∈(Bm l).2,P z.2.2/\∀y∈z.2.1,P y.2
 |[],P,_=>by simp[Bm]
 |(.cons c,w)::r,P,h=>by
  have a:=Ty r P λx hx=>gN;refine(hQ,a.2);simp only[Bm,List.mem_cons] at hy;rcases hy with rfl|hy
  .exact h (.cons c,w,) aC
  exact a.1 y hy
 |(.vowel g,w)::r,P,h=>by
  have a:=Ty r P λx hx=>gN;refine(by simp[Bm],aAa);simp only[Bm,List.mem_cons] at hz;rcases hz with rfl|hz
  .exact(h (.vowel g,w,) aC,a.1)
  exact a.2 z hz
theorem XA:∀(l:iR)(z:cA)(k:Nat),(∀x∈l,∀y∈x.2.1,y.2<k)->(∀y∈z,y.2=k)->(Fy l z).map wv=Gf (sD wv) (C_ z)
 |[],_,_,_,_=>rfl
 |[x],z,k,h,hz=>by
  simp only[Fy,List.map_cons,List.map_nil,Gf,List.getLast?_singleton,List.dropLast_singleton,List.nil_append,wv];by_cases g:x.1=true
  .simp only[g,if_true,BE];split
   .rfl
   rfl
  simp only[g,Bool.false_eq_true,if_false];rw[Agz x.2.1 z k (h x aC) hz]
 |x::y::r,z,k,h,hz=>by
  have a:=XA jU z k (λq hq=>pH h q hq) hz;simp only[Fy,List.map_cons] at a⊢;rw[a];simp only[Gf,List.getLast?_cons_cons]
  cases e:(wv y::List.map wv r).getLast? with
  |none=>simp at e
  |some q=>simp
theorem Ag0(A:aA2)(k:Nat)(s:iQ)(ha:Tw k A):
 CZ ((Bm A).2.map wv,mEN A,) (DU s)=((Bm aJO).2.map wv,mEN aJO,):=by
 have a:=Ty A (·<k) ha;have hw:(cR).2.map (λx=>if x.1 then 3 else Ez x.2)=(mHD k).map wv:=by rw[AsB];apply AsU;intro x _;simp only[Function.comp,wv,X9]
 have hs:∀x∈(mHD k),x.2.2=k:=by grind
 by_cases e:(Bm A).2=[]
 .rw[mC Tr e,Qo];simp only[CZ,DU,e];simp only[List.map_nil,Gf,List.getLast?_nil,D7,List.nil_append,hw];by_cases b:(cR).2=[]
  .simp[b,D7]
  rw[mM aFP,Tv _ k hs aFP];simp
 rw[mC Ts e,Qo];simp only[CZ,DU];have hz:∀y∈(cR).1.map (λc=>(c,k,)),y.2=k:=by simp
 have d:=XA (Bm A).2 aPv k (λx hx=>(oY a.2).2) hz;rw[X9] at d;have f:=X8 (Fy (Bm A).2 aPv) (mHD k) k (λx hx=>by obtain⟨y,hy,q⟩:=mV X7 x hx;rw[q];exact(a.2 y hy).1) hs
 rw[X6] at f;simp only[f,List.map_append,d,hw];by_cases b:(cR).2=[]
 .simp[b,D7]
 rw[mM aFP,Tv _ k hs aFP];simp
def JO(k:Nat)(L:oA mY Sound):List (Sound×Nat):=(L.zipIdx k).flatMap λw=>w.1.map λs=>(s,w.2,)
theorem XB:∀(L:oA mY Sound)(k:Nat)(A:aA2),Tw k A->
 (L.map DU).foldl CZ ((Bm A).2.map wv,mEN A,)=((Bm (A++JO k L)).2.map wv,mEN (A++JO k L),)
 |[],k,A,_=>by simp[JO]
 |s::r,k,A,h=>by
  rw[Asn,Ati,Ag0 A k s h];have hb:Tw (k+1) aJO:=by
   intro x hx;rcases oS hx with hx|hx
   .exact Au7 (oY h)
   grind
  rw[XB r (k+1) _ hb];simp[JO,List.zipIdx_cons,List.append_assoc]
theorem O1(l:Txt):dX=(syllables l).map number:=by have h:=XB (left (aFO.map (sounds 0))) 0 [] (λ_ hx=>nomatch hx);simp only[Bm,List.map_nil,D7,List.nil_append] at h;unfold Ck To HV syllables;rw[h,Tq,X5];rfl
def Jc:Txt:=[45,117,124,44,59,46,48,49,50,51,52,53,54,55,56,57]
def Eh(b:Txt):Bool:=decide (1<=b.length)&&decide (b.length<=4)&&b.all aJP
def E1(Bz:dL):Bool:=decide (Bz.length<=4)&&Bz.all Eh
def Jd(k:Nat):Txt:=if k<10 then[48+k] else[48+k/10,48+k%10]
def Fe(n:Nat):List Txt:=aA3.map λi=>sS Jd
def Fz(l:dL)(a:Txt):Option Nat:=l.findIdx? (·==a)
def EF(n:Nat)(b:Txt):Option gY:=match parts 46 b [] with
 |[f,p]=>match Fz aA4 f,Fz (Fe 4) p with
  |some x,some y=>mB (x,y,)
  |_,_=>none
 |_=>none
structure Bi where
 feet:List dL
 cuts:cA
def B0(b:Txt):List dL:=(mCR 124 b).map λf=>vV f
def EG(f:dN):Bool:=decide (f.length<=16)&&f.all E1
def JP(n:Nat)(l:dL):Option cA:=
 if l.length<=8 then(if l.all (λt=>(EF n t).isSome) then mB (l.map λt=>(EF n t).getD (0,0,)) else none) else none
def Ho(a:dL):Option Bi:=match a with
 |[f]=>if EG dI then aPw else none
 |[f,c]=>if EG dI then(match JP dI.length (vV c) with
  |some k=>mB (dI,k)
  |none=>none) else none
 |_=>none
def Je(b:Txt):Option Bi:=if b.all aJQ&&decide (1<=b.length)&&decide (b.length<=255) then Ho aFQ else none
def EH(t:Txt):List Bool:=t.map λc=>c==45
def E2(m:Bi):Measure:=(aPx,m.cuts.map λc=>(c.1+1,c.2+1,))
theorem Qp{f:α->oG β}{g:α->β}{p:α->Bool}(h:∀a,f a=if p a then oZ g a else none):∀l:cL,l.mapM f=if l.all p then oZ l.map g else none
 |[]=>rfl
 |a::r=>by
  rw[List.mapM_cons,h a,Qp h r];grind
theorem Ag1(b:Txt):way b=if Eh b then oZ EH b else none:=by unfold way Eh EH;grind
theorem Ag2(b:Txt):foot b=if E1 (vV b) then oZ (vV b).map EH else none:=by unfold foot;rw[Qp Ag1];unfold E1;grind
theorem XC(f:Txt):aJR.bind (λl=>if l.length<=16 then mB l else none)=if EG dI then mB (dI.map λw=>w.map EH) else none:=by
 rw[Qp Ag2];unfold EG B0;by_cases h:aDM.all (λa=>E1 (vV a))=true
 .rw[fZ];have h':List.all (aDM.map λf=>vV f) E1=true:=(oD Atw h);simp only[Option.bind_some,List.length_map,h',Bool.and_true,decide_eq_true_eq,List.map_map];rfl
 rw[gM];simp_all
theorem Tz(h:wY b=aY):b=Jd x/\1<=x/\x<=99:=by
 unfold digits at h;split at h
 .rename_i c;obtain⟨f,g,i,h4⟩:=c
  cases h
  match b,f,g with
  |[a],_,_=>
   simp at i;simp at h4;have e:mLB [a]=a - 48:=aC;rw[e];refine aPy;unfold Jd;rw[gZ];congr 1;omega
  |[a,d],_,_=>
   simp at i;simp at h4;have e:mLB [a,d]=10*(a - 48)+(d - 48):=aC;rw[e];refine aPy;unfold Jd;grind
 cases h
theorem Ag3(a:1<=x)(b:x<=99):wY (Jd x)=some x:=by unfold digits Jd;grind
theorem Qq(a:n<=99)(b:Txt):Fz aA4 b=(wY b).bind λx=>if x<=n then mB (x - 1) else none:=by
 unfold Fz
 cases h:List.findIdx? (·==b) aA4 with
 |none=>
  rw[List.findIdx?_eq_none_iff] at h
  cases e:wY b with
  |none=>rfl
  |some x=>
   obtain⟨q,c,d⟩:=Tz e;simp only[Option.bind_some];by_cases hx:x<=n
   .have:=h b (Asx.mpr (x - 1,mCS aA,by rw[q,Nat.sub_add_cancel c]));simp at this
   rw[mM hx]
 |some i=>
  rw[AtQ] at h;obtain⟨f,e,_⟩:=h;have hi':i<n:=(by simpa[Fe] using f);have e':sS Jd=b:=(by simpa[Fe] using e);rw[<-e',Ag3 aA aA];grind
theorem Ag4(a:n<=99)(b:Txt):cutOf n b=if aFR.isSome then mB ((aFR.getD (0,0,)).1+1,(aFR.getD (0,0,)).2+1,) else none:=by
 unfold cutOf EF;split
 .rename_i f p ep;simp only[ep];rw[Qq a,aPz]
  cases c:wY f with
  |none=>simp
  |some x=>
   obtain⟨_,d,_⟩:=Tz c
   cases e:wY p with
   |none=>simp only[Option.bind_some,Option.bind_none];split<;>simp_all
   |some y=>
    obtain⟨_,g,_⟩:=Tz e;grind
 simp
theorem Ag5(hp:aFQ=a):Kgz1.measure b=(Ho a).map E2:=by
 unfold Kgz1.measure Ho;rw[hp]
 match a with
 |[]=>rfl
 |[f]=>
  simp only;have h:=XC f
  cases e:aJR with
  |none=>
   simp_all
  |some l=>
   rw[e] at h;simp at h⊢;by_cases d:l.length<=16
   .rw[mK d] at h⊢;split at h
    .rename_i hf;rw[mK hf]
     cases h
     rfl
    cases h
   grind
 |[f,c]=>
  simp only;have h:=XC f
  cases e:aJR with
  |none=>
   simp_all
  |some l=>
   rw[e] at h;simp at h⊢;by_cases d:l.length<=16
   .rw[mK d] at h⊢;split at h
    .rename_i hf;rw[mK hf]
     cases h
     simp at d⊢;rw[Qp (Ag4 aA)];unfold JP;by_cases g:(vV c).length<=8
     .rw[mK g];by_cases ha:(vV c).all (λt=>(EF dI.length t).isSome)=true
      .rw[mK ha,mK ha];simp only[Option.bind_some,List.length_map,g,if_true,Option.map_some,E2,List.map_map];rfl
      rw[mM ha,mM ha];rfl
     grind
    cases h
   grind
 |_::_::_::_=>rfl
theorem KW(c:Nat):∀(b w:Txt)(x:Nat),(x∈b\/x∈w)->x=c\/∃p∈ aDN,x∈p
 |[],w,x,h=> mI (w,by simp[parts],by simpa using h)
 |d::r,w,x,h=>by
  unfold parts;by_cases e:d=c
  .rw[bU];rcases h with h|h
   .rcases gO with rfl|h
    .exact aAb
    rcases mBi c r h with q|⟨p,hp,hx⟩
    .exact iS
    exact mI (p,sE hp,hx)
   exact mI (mO w AsG h)
  rw[bN];apply KW c r aDO x;grind
theorem XD(h:nI EG dI):aPA:=by
 intro x hx;rcases mBi 124 f hx with rfl|⟨p,hp,a⟩
 .decide
 simp only[EG,B0,List.all_map,Bool.and_eq_true,List.all_eq_true] at h;have b:=rC h.2;simp only[Function.comp,E1,Bool.and_eq_true,List.all_eq_true] at b;rcases mBi 44 p a with rfl|⟨q,hq,c⟩
 .decide
 have d:=rD b.2;simp only[Eh,Bool.and_eq_true,List.all_eq_true] at d;have h4:=d.2 x c;simp at h4;rcases h4 with rfl|rfl<;>decide
theorem XE(h:wY f=mB n):aPA:=by
 intro x hx;unfold digits at h;split at h
 .rename_i c;have:=vW c.2.2.1 x hx;simp at this;have a:x=48\/x=49\/x=50\/x=51\/x=52\/x=53\/x=54\/x=55\/x=56\/x=57:=aA;rcases a with rfl|rfl|rfl|rfl|rfl|rfl|rfl|rfl|rfl|rfl<;>decide
 cases h
theorem Ag6(d:n<=99)(h:oO (EF n c).isSome):∀x∈c,mEO x=true:=by
 intro x hx;unfold EF at h;split at h
 .rename_i f p e;rw[Qq d,aPz] at h
  cases g:wY f with
  |none=>rw[g] at h;simp at h
  |some a=>
   cases i:wY p with
   |none=>
    grind
   |some b=>
    rcases mBi 46 c hx with rfl|⟨q,hq,j⟩
    .decide
    rw[e] at hq;simp at hq;rcases hq with rfl|rfl
    .exact XE g x j
    exact XE i x j
 cases h
theorem Ag7(h:Ho aFQ=mB m):nI b.all aJQ:=by
 rw[AsL];intro x hx;rcases mBi 59 b hx with rfl|⟨p,hp,a⟩
 .decide
 unfold Ho at h;split at h
 .rename_i f e;rw[e] at hp;simp at hp;subst hp;split at h
  .rename_i hf;exact XD hf x a
  cases h
 .rename_i f c e;rw[e] at hp;simp at hp;split at h
  .rename_i hf;rcases hp with rfl|rfl
   .exact XD hf x a
   have hle:dI.length<=99:=by simp only[EG,Bool.and_eq_true,decide_eq_true_eq] at hf;omega
   split at h
   .rename_i k hk;unfold JP at hk;split at hk
    .split at hk
     .rename_i ha;rcases mBi 44 p a with rfl|⟨q,hq,d⟩
      .decide
      exact Ag6 hle (vW ha q hq) x d
     cases hk
    cases hk
   cases h
  cases h
 cases h
theorem T1(b:Txt):measured b.length b=(Je b).map E2:=by
 unfold measured Je;by_cases a:b.length<1\/255<b.length
 .grind
 rw[mM a,Ag5 rfl];by_cases ha:b.all aJQ=true
 .grind
 rw[Asa (by intro q;simp only[Bool.and_eq_true] at q;exact ha q.1.1)]
 cases e:Ho aFQ with
 |none=>rfl
 |some m=>exact nL (Ag7 e) ha
structure Bi.Ok(m:Bi):Prop where
 KY:m.feet.length<=16
 Qr:1<=m.feet.length
 Bz:∀f∈m.feet,f.length<=4/\1<=f.length/\∀w∈f,Eh w=true
 Ag8:m.cuts.length<=8
 cuts:∀c∈m.cuts,c.1<m.feet.length/\c.2<4
 size:(m.feet.map λf=>aFS.foldl (·+·) 0).foldl (·+·) 0<=255
theorem Qs(c:Nat):∀b w,1<= aDN.length
 |[],w=>by simp[parts]
 |d::r,w=>by
  unfold parts;split
  .simp
  exact Qs c r _
theorem XF(h:Fz l a=mB i):aFT:=by unfold Fz at h;rw[AtQ] at h;exact h.1
def AM(l:aB):Nat:=l.foldl (·+·) 0
theorem C7(a:Nat)(l:aB):AM (a::l)=a+AM l:=by unfold AM;rw[Ati,Tt];omega
theorem My(c:Nat):∀b w,yI aDN.map<=b.length+w.length
 |[],w=>by simp[parts,AM]
 |d::r,w=>by
  unfold parts;split
  .rw[Asn,C7];have:=My c r [];grind
  have:=My c r aDO;grind
theorem Qt:∀l:cL,(∀x∈l,f x<=g x)->AM (sD f)<=AM (sD g)
 |[],_=>aF
 |a::r,h=>by
  rw[Asn,Asn,C7,C7];have b:=hR;have c:=Qt r λx hx=>gN;omega
theorem XG(f:Txt):AM (dI.map λw=>yI w.map)<=f.length:=by
 have e:dI.map (λw=>yI w.map)=aDM.map λx=>AM (mAc (vV x).map):=by unfold B0;rw[AsB];rfl
 rw[e];have a:=Qt (f:=λx=>yI (vV x).map) (g:=List.length) aDM (λx _=>by have:=My 44 x [];simpa using this)
 have b:=My 124 f [];grind
theorem XH(h:nI EG dI):dI.length<=16/\1<= dI.length/\∀x∈ dI,x.length<=4/\1<=x.length/\∀w∈x,Eh w=true:=by
 simp only[EG,Bool.and_eq_true,decide_eq_true_eq,List.all_eq_true] at h;refine(h.1,5,dY)
 .unfold B0;rw[ArX];exact Qs 124 f []
 have a:=oY h.2;simp only[E1,Bool.and_eq_true,decide_eq_true_eq,List.all_eq_true] at a;refine(a.1,5,a.2);obtain⟨y,_,rfl⟩:=aAc;exact Qs 44 y []
theorem T2(h:Je b=mB m):m.Ok:=by
 unfold Je at h;split at h
 .rename_i hb;simp at hb;have hs:=My 59 b [];unfold Ho at h;split at h
  .rename_i f e;split at h
   .rename_i hf
    cases h
    obtain⟨a,d,g⟩:=XH hf;refine(a,d,g,9,9,5);have:=XG f;rw[e] at hs;simp only[List.map_cons,List.map_nil,C7,List.length_nil] at hs;simp only[AM] at this hs⊢;omega
   cases h
  .rename_i f c e;split at h
   .rename_i hf;obtain⟨a,d,g⟩:=XH hf;split at h
    .rename_i k hk
     cases h
     unfold JP at hk;split at hk
     .rename_i i;split at hk
      .rename_i ha
       cases hk
       refine(a,d,g,by simpa using i,dY,5)
       .obtain⟨t,j,rfl⟩:=aAc;have hq:=vW ha t j;unfold EF at hq⊢;split at hq
        .rename_i l n ep;rw[ep] at*;simp only at hq⊢
         cases o:Fz (Fe dI.length) l with
         |none=>rw[o] at hq;cases hq
         |some x=>
          cases p:Fz (Fe 4) n with
          |none=>rw[o,p] at hq;cases hq
          |some y=>
           have q:=XF o;have r:=XF p;simp only[Fe,List.length_map,List.length_range] at q r;grind
        cases hq
       have:=XG f;rw[e] at hs;simp only[List.map_cons,List.map_nil,C7,List.length_nil] at hs;simp only[AM] at this hs⊢;omega
      cases hk
     cases hk
    cases h
   cases h
  cases h
 cases h
def Ct(a:aB)(w:Txt)(at':Nat):Bool:=decide (at'+w.length<=a.length)&&(w.zip (a.drop at')).all λx=>x.2%4 != aPB
def Ei(cuts:cA)(a:aB)(foot:Nat)(w:Txt)(at':Nat):Bool:=cuts.any λc=>c.1==foot&&decide (c.2<w.length)&&decide (4<=a.getD (at'+c.2) 0)
def Bz(cuts:cA)(a:aB):dN ->Nat->Nat->Bool-> bV
 |[],_,at',Am=>if at'=a.length/\Am=true then[[]] else[]
 |f::r,i,at',Am=>f.zipIdx.flatMap λw=>if Ct a w.1 at' then(Bz cuts a r (i+1) (at'+w.1.length) (Am||Ei cuts a i w.1 at')).map (w.2::·) else[]
def Jf(cuts:cA)(a:aB):dN ->Nat->Nat-> aB ->Bool
 |f::r,i,at',j::t=>Ei cuts a i aJS at'||Jf cuts a r (i+1) (at'+aJS.length) t
 |_,_,_,_=>false
theorem Ag9(s:Syl):number s%4=Hm s.kind:=by
 rw[Tu]
 cases s.kind<;>cases s.ends<;>rfl
theorem AgA(s:Syl):decide (4<=number s)=s.ends:=by
 rw[Tu]
 cases s.kind<;>cases s.ends<;>rfl
theorem AgB(k:Kind)(b:Bool):fits k b=(Hm k != (if b=true then 0 else 1)):=by
 cases k<;>cases b<;>rfl
theorem AgC(s:mY Syl)(w:Txt)(a:Nat)(ha:a<=s.length):
 Ct aCg w a=(decide ((EH w).length<= aDP.length)&&((EH w).zip aDP).all λx=>fits x.2.kind x.1):=by
 unfold Ct;congr 1
 .simp only[List.length_map,List.length_drop,EH];apply At0.mpr;omega
 rw[<-List.map_drop];generalize s.drop a=d;unfold EH
 induction w generalizing d with
 |nil=>simp
 |cons c w b=>
  cases d with
  |nil=>simp
  |cons x d=>
   simp only[List.map_cons,List.zip_cons_cons,List.all_cons,b d];congr 1;rw[AgB,Ag9];simp only[beq_iff_eq]
theorem AgD(f:dL)(j:Nat):aFU.getD j []=EH aJS:=by
 simp
 cases f[j]? <;>simp[EH]
theorem XI(w:Txt):tO EH w w.length:=by simp[EH]
theorem AgE{l:cL}{x:α}(h:(x,j,)∈l.zipIdx):pC l[j]? x:=by grind
theorem XJ:∀{l:cL},aPC ->l.flatMap f=l.flatMap g
 |[],_=>rfl
 |a::r,h=>by
  rw[Au8,Au8,hR,XJ λx hx=>gN]
theorem XL(cuts:cA)(s:mY Syl):∀(r:dN)(i a:Nat)(Am:Bool),a<=s.length->
 Bz cuts aCg r i a Am=(takes (r.map λf=>aFU) aDP).filter λt=>Am||Jf cuts aCg r i a t
 |[],i,a,Am,ha=>by
  simp only[Bz,List.map_nil,takes,List.length_map];by_cases h:a=s.length
  .have hd:aDP=[]:=(pD h);rw[mK hd]
   cases Am<;>simp[h,Jf]
  have hd:¬ aDP=[]:=by intro q;have:=yJ q;grind
  rw[mM hd,vA h q.1];rfl
 |f::r,i,a,Am,ha=>by
  simp only[Bz,List.map_cons,takes];rw[AvB];have e:aFU.zipIdx=f.zipIdx.map λw=>(EH w.1,w.2,):=(qF List.zipIdx_map);rw[e,List.flatMap_map];apply XJ;intro w hw;have hg:f.getD w.2 []=w.1:=by grind
  have hf:=AgC s w.1 a ha;by_cases c:Ct aCg w.1 a=true
  .have hle:a+w.1.length<=s.length:=by
    simp only[Ct,Bool.and_eq_true,decide_eq_true_eq,List.length_map] at c;exact c.1
   rw[mK c];rw[c] at hf;have b:=hf.symm;simp only[Bool.and_eq_true,decide_eq_true_eq] at b;rw[mK b,XL cuts s r (i+1) aPD _ hle,AvJ,XI,List.filter_map];congr 1;apply Av_;intro t _;simp only[Function.comp,Jf,hg];rw[Bool.or_assoc]
  grind
def HW(r:dN)(t:aB):List Nat:=(r.zip t).map λx=>aPE.length
def O2(b:aB)(sz:aB)(i a:Nat)(c:gY):Bool:=decide (i<=c.1)&&(decide (c.2<sz.getD (c.1 - i) 0)&&decide (4<=sT (a+AM (sz.take (c.1 - i))+c.2)))
theorem T3(f g:α->Bool):∀l:cL,(l.any λx=>f x||g x)=(l.any f||l.any g)
 |[]=>rfl
 |a::r=>by simp only[List.any_cons,T3 f g r];cases f a<;>cases g a<;>cases r.any f<;>rfl
theorem Mz:∀{l:cL},aPC ->l.any f=l.any g
 |[],_=>rfl
 |a::r,h=>by rw[Ata,Ata,hR,Mz λx hx=>gN]
theorem Qu:∀{l:cL},(mHE f)->l.any f=false
 |[],_=>rfl
 |a::r,h=>by rw[Ata,hR,Qu λx hx=>gN];rfl
theorem XM(cuts:cA)(b:aB):∀(r:dN)(i a:Nat)(t:aB),Jf cuts b r i a t=cuts.any (O2 b (HW r t) i a)
 |[],i,a,t=>by
  simp only[Jf];exact aPF.symm
 |f::r,i,a,[]=>by
  simp only[Jf];exact aPF.symm
 |f::r,i,a,j::t=>by
  simp only[Jf];rw[XM cuts b r (i+1) _ t,Ei,<-T3];apply Mz;intro c _;simp only[O2,HW,List.zip_cons_cons,List.map_cons];by_cases h:c.1=i
  .have e:¬(i+1<=c.1):=aA;have g:c.1 - i=0:=aA;have k:i<=c.1:=aA;have h4:oO (c.1==i):=fE;rw[mS e,g,h4,mU k];simp only[Bool.true_and,Bool.false_and,Bool.or_false,List.getD_cons_zero,List.take_zero,AM,List.foldl_nil,Nat.add_zero];rfl
  have h0:pG (c.1==i):=fE;rw[h0];by_cases g:i<=c.1
  .obtain⟨d,hd⟩:∃d,c.1 - i=d+1:=(mBj c.1 i);have l:c.1 - (i+1)=d:=aA;have k:i+1<=c.1:=aA;simp only[hd,l,g,k,decide_true,Bool.true_and,Bool.false_and,Bool.false_or,List.getD_cons_succ,List.take_succ_cons,C7,Nat.add_assoc]
  grind
theorem AgF(m:Bi)(s:mY Syl)(t:aB):cutsOk aDQ s t=(m.cuts.isEmpty||Jf m.cuts aCg m.feet 0 0 t):=by
 unfold cutsOk;rw[XM];simp only[E2];congr 1
 .cases m.cuts<;>rfl
 rw[List.any_map];apply Mz;intro c _;simp only[Function.comp,place,O2,Nat.add_sub_cancel,Nat.zero_le,decide_true,Bool.true_and,Nat.sub_zero,Nat.zero_add];have e:(aPx.zip t).map (λx=>aPE.length)=HW m.feet t:=by rw[List.zip_map_left,AsB];apply AsU;intro x _;simp only[Function.comp,Prod.map,AgD,XI,id]
 rw[e];by_cases h:c.2+1<=(HW m.feet t).getD c.1 0
 .have h':c.2<(HW m.feet t).getD c.1 0:=h;rw[fZ];have a:List.foldl (·+·) 0 aJT+(c.2+1) - 1=AM aJT+c.2:=(by unfold AM;omega);simp only[a,h',decide_true,Bool.true_and];rw[Asv,ArY]
  cases s[AM aJT+c.2]? with
  |none=>rfl
  |some x=>
   simp;exact(AgA x).symm
 grind
theorem T4(m:Bi)(s:mY Syl):scans aDQ s=Bz m.cuts aCg m.feet 0 0 m.cuts.isEmpty:=by rw[XL m.cuts s m.feet 0 0 _ aR];rw[Atv];apply Av_;intro t _;exact AgF m s t
theorem T5:∀(l:cL)(n:Nat),aJU.map Prod.fst=l
 |[],_=>rfl
 |a::r,n=>by rw[Awh,Asn,T5 r]
def cw(cuts:cA)(b:aB)(r:dN)(i a:Nat)(Am:Bool)(w:Txt):Nat:=
 if aA5 then aPG.length else 0
theorem XN(f:α->mY β):∀l:cL,(l.flatMap f).length=AM (l.map λx=>(f x).length)
 |[]=>rfl
 |a::r=>by rw[Au8,Asi,XN f r,Asn,C7]
theorem XO(cuts:cA)(b:aB)(f:dL)(r:dN)(i a:Nat)(Am:Bool):
 aJV.length=AM (f.map aFV):=by
 simp only[Bz];rw[XN];congr 1;have:f.map aFV=f.zipIdx.map (aFV ∘Prod.fst):=by rw[<-AsB,T5]
 rw[this];apply AsU;intro w _;simp only[Function.comp,cw];split<;>simp
theorem XQ(g:α×Nat->mY β):∀(l:cL)(n j k:Nat)(x:α),l[j]? =aY ->k<(g (x,n+j,)).length->
 (aJU.flatMap g)[AM ((aJU.take j).map λw=>(g w).length)+k]? =(g (x,n+j,))[k]?
 |[],n,j,k,x,h,_=>by simp at h
 |a::r,n,0,k,x,h,hk=>by
  simp at h;subst h;rw[Awh,Au8];simp only[List.take_zero,List.map_nil,AM,List.foldl_nil,Nat.zero_add,Nat.add_zero] at hk⊢;rw[Ask hk]
 |a::r,n,j+1,k,x,h,hk=>by
  have e:n+(j+1)=n+1+j:=aA;rw[e] at hk⊢;have b:=XQ g r (n+1) j k x fE hk;rw[Awh,Au8,Auf,Asn,C7];grind
theorem AgG(cuts:cA)(b:aB)(f:dL)(r:dN)(i a:Nat)(Am:Bool)(j k:Nat)(w:Txt)(hj:f[j]? =mB w)(hk:k<cw cuts b r i a Am w):
 aJV[aPH+k]? =
  (aPG[k]?).map (j::·):=by
 have hf:aA5=true:=by
  unfold cw at hk;split at hk
  .assumption
  omega
 have h:=XQ (λ(w:Txt×Nat)=>if mAd w.1 then aJW else[]) f 0 j k w hj (by simp only[hf,if_true,List.length_map];unfold cw at hk;rw[mK hf] at hk;exact hk)
 simp only[hf,if_true,Nat.zero_add,List.getElem?_map] at h;rw[<-h];have e:aPH=AM (aPI.map λw=>(if mAd w.1 then aJW else[]).length):=by
  congr 1;have:wZ j=aPI.map Prod.fst:=by rw[AuM,T5]
  rw[this,AsB];apply AsU;intro w _;simp only[Function.comp,cw];split<;>simp
 rw[e];rfl
theorem AgH(cuts:cA)(b:aB)(f:dL)(r:dN)(i a:Nat)(Am:Bool)(hf:∀w∈f,1<=w.length)(ha:b.length<=a):aJV=[]:=by simp only[Bz];rw[Avc];intro w hw;rw[Asa];intro q;simp only[Ct,Bool.and_eq_true,decide_eq_true_eq] at q;grind
theorem XR(n:Nat):∀l:aB,(mEP n)->AM l<=l.length*n
 |[],_=>by simp[AM]
 |a::r,h=>by
  rw[C7,As1,Nat.succ_mul];have b:=hR;have c:=XR n r λx hx=>gN;omega
theorem T6(n:Nat):n≠0↔∃i,n.testBit i=true:=by
 constructor
 .intro h;exact Nat.exists_testBit_of_ne_zero h
 rintro⟨i,a⟩ rfl;simp at a
theorem M0(a b:Nat):a&&&b≠0↔∃i,aAd=true/\pM i=true:=by rw[T6];simp[Nat.testBit_and]
structure BR where
 AW:Nat
 cuts:Nat
 inner:Nat
 BP:List gY
 F0:Nat
 Ej:Nat
 Ek:Nat
 first:Nat
 done:Nat
def BR.B2(T:BR)(len:Nat):Nat:=if len=0 then T.F0 else if len=1 then T.Ej else T.Ek
def Ch(a b:Nat):Nat:=a^^^aAe
theorem Hq(a b i:Nat):(Ch a b).testBit i=(aAd&& !b.testBit i):=by
 unfold Ch;rw[AuR,Atd]
 cases aAd<;>cases pM i<;>rfl
def Dt(T:BR)(P len:Nat)(a:Bool):Nat:=
 if P&&&jV=0 then 0 else
 let st:=if a then mBk (P&&&jV)|||aPJ else P&&&T.B2 len
 T.BP.foldl kX ((st&&&T.inner)<<<1)
def before(T:BR)(P len:Nat)(a:Bool):Nat:=
 if P=0 then 0 else
 let st:=T.BP.foldl aPK aPL
 (if a then mBk st|||(mHF st) else st)&&&jV
def Gh(T:BR)(a:Bool)(x:Nat):Nat:=if a=true/\mHG x=true then x+T.AW else x
def Qv(T:BR)(len:Nat)(a:Bool)(x y:Nat):Prop:=
 jV.testBit x=true/\((T.inner.testBit aA6=true/\y=aA6+1)\/∃d∈T.BP,mHH aA6=true/\d.2.testBit y=true)
theorem T7(c:Nat×Nat->Prop)[DecidablePred c](g:Nat×Nat->Nat)(y:Nat):∀(ds:cA)(r:Nat),
 (ds.foldl (λr d=>if c d then r|||g d else r) r).testBit y=true↔(yK y=true\/∃d∈ds,c d/\(g d).testBit y=true)
 |[],r=>by simp
 |d::ds,r=>by
  rw[Ati,T7 c g y ds];by_cases h:c d
  .rw[fZ,Ate,Atx];constructor
   .rintro((q|q)|⟨e,he,q⟩)
    .exact iS
    .exact mI (d,9,h,q)
    exact aPM
   rintro(q|⟨e,he,a,b⟩)
   .exact oA mH q
   rcases pN he with rfl|he
   .exact mCT b
   exact aPN
  rw[gM];constructor
  .rintro(q|⟨e,he,q⟩)
   .exact iS
   exact aPM
  rintro(q|⟨e,he,a,b⟩)
  .exact iS
  rcases pN he with rfl|he
  .exact nL a h
  exact aPN
theorem AgI(T:BR)(S:Nat)(a:Bool)(z:Nat):
 (if a then mBk S|||((S&&&T.cuts)<<<T.AW) else S).testBit z=true↔∃x,S.testBit x=true/\ aA6=z:=by
 cases a with
 |false=>simp[Gh]
 |true=>
  simp only[if_true,Nat.testBit_or,Hq,Nat.testBit_shiftLeft,Nat.testBit_and,Bool.or_eq_true,Bool.and_eq_true,Bool.not_eq_true',decide_eq_true_eq,Gh,true_and];constructor
  .rintro(⟨b,c⟩|⟨b,c,d⟩)
   .exact(z,b,by rw[Asa];simp[c])
   refine(z - T.AW,c,5);rw[mK d];omega
  rintro⟨x,b,c⟩;by_cases hc:mHG x=true
  .rw[mK hc] at c;subst c;right;refine aPO
   .rw[At6];exact b
   rw[At6];exact hc
  rw[mM hc] at c;subst c;left;exact(b,by simpa using hc)
theorem Qw(T:BR)(P len:Nat)(a:Bool)(y:Nat):(Dt T P len a).testBit y=true↔∃x,xA x=true/\Qv T len a x y:=by
 unfold Dt;by_cases h0:P&&&jV=0
 .rw[mK h0];constructor
  .intro h;simp at h
  rintro⟨x,b,c,_⟩;exfalso;exact(M0 P jV).mpr (mO x b c) h0
 rw[mM h0];simp only;generalize e:(if a=true then mBk (P&&&jV)|||aPJ else P&&&jV)=S;have hm:∀z,S.testBit z=true↔∃x,(xA x=true/\ jV.testBit x=true)/\ aA6=z:=by intro z;rw[<-e,AgI];simp[Nat.testBit_and]
 rw[T7 (λd=>S&&&d.1≠0) (λd=>d.2)];rw[Atr,Atd];simp only[Bool.and_eq_true,decide_eq_true_eq];constructor
 .rintro(⟨b,c,f⟩|⟨d,hd,b,c⟩)
  .obtain⟨x,⟨g,i⟩,j⟩:=(hm _).mp c;exact(x,g,i,mH (mLC j f))
  obtain⟨z,k,l⟩:=(M0 _ _).mp b;obtain⟨x,⟨g,i⟩,j⟩:=(hm _).mp k;exact(x,g,i,mI (d,hd,by rw[j];exact l,c))
 rintro⟨x,g,i,(⟨b,c⟩|⟨d,hd,b,c⟩)⟩
 .left;subst c;refine aPO
  .rw[At6];exact(hm _).mpr aPP
  rw[At6];exact b
 right;exact(d,hd,(M0 _ _).mpr (aA6,(hm _).mpr aPP,b),c)
theorem Qx(T:BR)(P len:Nat)(a:Bool)(x:Nat):(before T P len a).testBit x=true↔∃y,xA y=true/\Qv T len a x y:=by
 unfold before;by_cases h0:P=0
 .rw[mK h0];constructor
  .intro h;simp at h
  rintro⟨y,b,_⟩;rw[h0] at b;simp at b
 rw[mM h0];simp only;generalize c:(T.BP.foldl aPK aPL)=S;have hm:∀z,S.testBit z=true↔(xA (z+1)=true/\T.inner.testBit z=true)\/∃d∈T.BP,(mHI xA d.2.testBit)/\mHH z=true:=by intro z;rw[<-c,T7 (λd=>P&&&d.2≠0) (λd=>d.1)];simp only[Nat.testBit_and,Nat.testBit_shiftRight,Bool.and_eq_true,M0,Nat.add_comm 1 z]
 have hb:(if a=true then mBk S|||(mHF S) else S).testBit x=S.testBit aA6:=by
  cases a with
  |false=>simp[Gh]
  |true=>
   simp only[if_true,Nat.testBit_or,Hq,Nat.testBit_and,Nat.testBit_shiftRight,Gh,true_and]
   cases hc:mHG x with
   |true=>simp[Nat.add_comm]
   |false=>simp
 rw[Atd,hb,AsF,hm];constructor
 .rintro⟨(⟨b,e⟩|⟨d,hd,⟨y,f,g⟩,e⟩),hf⟩
  .exact(_,b,hf,xB e rfl)
  exact(y,f,hf,mI (d,hd,e,g))
 rintro⟨y,hy,hf,(⟨b,e⟩|⟨d,hd,b,e⟩)⟩
 .subst e;exact(xB hy b,hf)
 exact(mI (d,hd,(mO y hy e),b),hf)
structure Bq where
 foot:Nat
 way:Txt
 place:Nat
def CD(i:Nat)(w:Txt):List Bq:=aDR.map λp=>(mO i w p)
def Bd(i:Nat)(f:dL):List Bq:=f.flatMap (CD i)
def cellsFrom:Nat-> dN -> gB
 |_,[]=>[]
 |i,f::r=>cV++sS mCU
def AN(p:hA):Nat-> gB ->Nat
 |_,[]=>0
 |b,c::r=>(if p c then 1<<<b else 0)|||AN p (b+1) r
theorem M3(p:hA):∀(cs:gB)(b x:Nat),mHJ x=true↔b<=x/\∃c,cs[x - b]? =bT /\p c=true
 |[],b,x=>by simp[AN]
 |c::r,b,x=>by
  simp only[AN,Nat.testBit_or,Bool.or_eq_true,M3 p r (b+1) x];have a:(if p c=true then 1<<<b else 0).testBit x=true↔(x=b/\p c=true):=by
   split
   .rename_i h;rw[AsE,AtP];simp[h];omega
   rename_i h;simp[h]
  rw[a];constructor
  .rintro(⟨rfl,h⟩|⟨h,d,hd,hp⟩)
   .exact(aF,c,9,h)
   refine aPQ;obtain⟨k,hk⟩:∃k,x - b=k+1:=(mBj x b);have:x - (b+1)=k:=aA;rw[hk,AtM,<-this];exact hd
  rintro⟨h,d,hd,hp⟩;by_cases e:x=b
  .subst e;left;simp at hd;subst hd;exact(mAe hp)
  right;refine aPQ;obtain⟨k,hk⟩:∃k,x - b=k+1:=(mBj x b);have:x - (b+1)=k:=aA;rw[hk,AtM] at hd;rw[this];exact hd
theorem Qy(p:hA):∀(A B:gB)(b:Nat),vX kW=vX A|||AN p aFW B
 |[],B,b=>by simp[AN]
 |c::r,B,b=>by
  rw[At8];simp only[AN,Qy p r B (b+1),List.length_cons];rw[Nat.or_assoc,show b+1+r.length=b+(r.length+1) by omega]
theorem JQ(p:hA)(cs:gB)(b:Nat):aJX<2 ^ (b+cs.length):=by
 apply Atn;intro i a
 cases h:mHJ i with
 |false=>rfl
 |true=>
  obtain⟨d,c,e,_⟩:=(M3 p cs b i).mp h;have:=(nS e).1;omega
theorem AgJ(p:hA)(cs:gB)(b:Nat):aJX=AN p 0 cs<<<b:=by
 apply Atg;intro i;rw[Atr];have a:=M3 p cs b i;have c:=M3 p cs 0 (i - b);simp at c;by_cases hb:b<=i
 .have hd:decide (i>=b)=true:=cF;rw[hd,AtS];rw[Aty,a,c];simp[hb]
 have hd:decide (i>=b)=false:=cF;rw[hd,At5]
 cases h:mHJ i with
 |false=>rfl
 |true=>exact nL (a.mp h).1 hb
theorem AgK(p:hA)(A B:gB)(b:Nat):vX kW=vX A+AN p aFW B:=by rw[Qy,AgJ p B aFW];rw[Awi,Avu (AN p 0 B),Nat.or_comm,<-(Nat.two_pow_add_eq_or_of_lt (JQ p A b) (AN p 0 B))];omega
def Gi(c:Bq):Bool:=c.place+1==c.way.length
def HX(c:Bq):Bool:= !Gi c
def Du(c:Bq):Bool:=aJY==45
def Dh(c:Bq):Bool:=c.place==0
def El(cuts:cA)(c:Bq):Bool:=cuts.any λx=>x.1==c.foot&&x.2==c.place
def Br:Nat->Nat-> dN -> aB
 |_,_,[]=>[]
 |i,b,f::r=>AN Dh b cV::mHK Br
def DI:Nat->Nat-> dN -> aB
 |_,_,[]=>[]
 |i,b,f::r=>AN Gi b cV::mHK DI
def DJ(h n:Nat):Nat:=n|||(n<<<h)
def FD(h:Nat):cA -> cA
 |[]=>[]
 |(e,s)::r=>(e,s,)::(e<<<h,s<<<h,)::FD h r
def An(m:Bi):List Bq:=cellsFrom 0 m.feet
def Aj(m:Bi):BR:=
 let size:=aU.length;let Gj:=mAf Br++[1<<<size]
 {AW:=size+1
  cuts:=AN aFX 0 aU
  inner:=DJ aA7 (mBl HX)
  BP:=FD aA7 (aCh.zip Gj.tail)
  F0:=aPR^^^DJ aA7 kY
  Ej:=DJ aA7 kY
  Ek:=aPR
  first:=if m.cuts=[] then(Gj.headD 0)<<<aA7 else Gj.headD 0
  done:=(1<<<size)<<<aA7}
def B5(h:Nat)(q:Nat)(Am:Bool):Nat:=q+if Am then h else 0
theorem M4(a:n<2 ^ h)(hq:q<h)(Am:Bool):(DJ h n).testBit (B5 h q Am)=n.testBit q:=by
 unfold DJ B5;rw[Ate,Atr]
 cases Am with
 |false=>
  have:decide (q+0>=h)=false:=dM;simp[this];omega
 |true=>
  have b:pV n.testBit (q+h):=At1 (yL a);simp[b]
theorem KZ:∀(r:dN)(i:Nat)(c:Bq),c∈mCU i->∃k f,r[k]? =mB f/\c.foot=i+k/\c.way∈f/\c.place<c.way.length
 |[],i,c,h=>by simp[cellsFrom] at h
 |f::r,i,c,h=>by
  simp only[cellsFrom,List.mem_append] at h;rcases h with h|h
  .simp only[Bd,List.mem_flatMap,CD,List.mem_map,List.mem_range] at h;obtain⟨w,hw,p,hp,rfl⟩:=h;exact(60,f,9,9,hw,hp)
  obtain⟨k,g,a,b,d⟩:=KZ r (i+1) c h;exact(k+1,g,by simpa using a,4,d)
theorem XS(h:c∈ cV):c.foot=i:=by simp only[Bd,List.mem_flatMap,CD,List.mem_map] at h;obtain⟨w,hw,p,hp,rfl⟩:=h;rfl
theorem T8(p:hA)(F:Nat->Nat-> dN -> aB)
 (h0:∀i b,F i b []=[]) (a:∀i b f r,F i b (f::r)=vX cV::mHK F):
 ∀(r:dN)(i b k s q:Nat),(F i b r)[k]? =mB s->(mHL p)
 |[],i,b,k,s,q,h=>by rw[h0] at h;simp at h
 |f::r,i,b,0,s,q,h=>by
  rw[a] at h;simp at h;subst h;rw[M3];simp only[cellsFrom,Nat.add_zero];constructor
  .rintro⟨hb,c,hc,hp⟩;exact(hb,c,by rw[Ask (jW).1];exact hc,XS (Asl hc),hp)
  rintro⟨hb,c,hc,hf,hp⟩;refine(hb,c,5,hp);by_cases d:q - b<cV.length
  .rw[Ask d] at hc;exact hc
  rw[eL] at hc;obtain⟨k,_,_,e,_⟩:=KZ r (i+1) c (Asl hc);omega
 |f::r,i,b,k+1,s,q,h=>by
  rw[a] at h;simp at h;rw[T8 p F h0 a r (i+1) _ k s q h];simp only[cellsFrom];constructor
  .rintro⟨hb,c,hc,hf,hp⟩;refine aPS;rw[eL,<-hc];congr 1;omega
  rintro⟨hb,c,hc,hf,hp⟩;by_cases d:q - b<cV.length
  .rw[Ask d] at hc;have:=XS (Asl hc);omega
  rw[eL] at hc;refine aPS;rw[<-hc];congr 1;omega
theorem XT(h:aFY[k]? =mB s):mHL Dh:=
 mLD Dh Br
theorem AgL(h:aFZ[k]? =mB s):mHL Gi:=
 mLD Gi DI
theorem O3:∀(r:dN)(i b:Nat),aFY.length=r.length
 |[],_,_=>rfl
 |f::r,i,b=>by simp only[Br,List.length_cons,O3 r]
theorem XU:∀(r:dN)(i b:Nat),aFZ.length=r.length
 |[],_,_=>rfl
 |f::r,i,b=>by simp only[DI,List.length_cons,XU r]
theorem Qz:∀{l:cA},d∈FD h l↔∃x∈l,d=x\/d=(x.1<<<h,x.2<<<h,)
 |[]=>by simp[FD]
 |(e,s)::r=>by
  simp only[FD,List.mem_cons,Qz (l:=r)];constructor
  .rintro(q|q|⟨x,hx,q⟩)
   .exact((e,s,),aZ,iS)
   .exact((e,s,),aZ,mI q)
   exact(x,mI hx,q)
  rintro⟨x,(rfl|hx),q⟩
  .rcases q with q|q
   .exact iS
   exact mBm q
  exact oA mI (mO x hx q)
theorem T9:∀(r:dN)(i q:Nat)(c:Bq),(mCU i)[q]? =bT ->c.place+1<c.way.length->(mCU i)[q+1]? =some aF0:=by
 have hw:∀(i:Nat)(w:Txt)(q:Nat)(c:Bq),aCi[q]? =bT ->q<w.length/\c=(mO i w q):=by
  intro i w q c h;unfold CD at h;rw[ArY] at h
  cases e:aDR[q]? with
  |none=>rw[e] at h;cases h
  |some z=>
   rw[e] at h;obtain⟨a,b⟩:=nS e;simp at a;simp at b;subst b
   cases h
   exact(a,2)
 have d:∀(i:Nat)(w:Txt),aCi.length=w.length:=(by intro i w;simp[CD]);have hf:∀(f:dL)(i q:Nat)(c:Bq),cV[q]? =bT ->c.place+1<c.way.length-> cV[q+1]? =some aF0:=by
  intro f
  induction f with
  |nil=>intro i q c h;simp[Bd] at h
  |cons w f g=>
   intro i q c h hp;have e:Bd i (w::f)=aCi++Bd i f:=(by simp[Bd]);rw[e] at h⊢;by_cases hq:q<aCi.length
   .rw[Ask hq] at h;obtain⟨_,rfl⟩:=hw i w q c h;simp only at hp⊢;have j:q+1<aCi.length:=(oD d hp);rw[Ask j];unfold CD;rw[ArY,AsY hp];rfl
   rw[eL] at h;have:=g i _ c h hp;rw[eL,<-this];congr 1;omega
 intro r
 induction r with
 |nil=>intro i q c h;simp[cellsFrom] at h
 |cons f r g=>
  intro i q c h hp;simp only[cellsFrom] at h⊢;by_cases hq:q<cV.length
  .rw[Ask hq] at h;have a:=hf f i q c h hp;rw[Ask (nS a).1];exact a
  rw[eL] at h;have:=g (i+1) _ c h hp;rw[eL,<-this];congr 1;omega
theorem AgM(r:dN)(i k:Nat)(f:dL)(w:Txt)(hf:r[k]? =mB f)(hw:w∈f)(a:1<=w.length):∃q:Nat,(mCU i)[q]? =some (Bq.mk (i+k) w 0):=by
 have hm:((i+k,w,60):Bq)∈cellsFrom i r:=by
  induction r generalizing i k with
  |nil=>simp at hf
  |cons g r b=>
   simp only[cellsFrom,List.mem_append]
   cases k with
   |zero=>
    simp at hf;subst hf;left;simp only[Bd,List.mem_flatMap,CD,List.mem_map,List.mem_range];exact(w,hw,60,a,2)
   |succ k=>
    right;have:=b (i+1) k (mR hf);rw[show i+1+k=i+(k+1) by omega] at this;exact this
 obtain⟨q,hq,e⟩:=Asy hm;exact(q,by rw[mJ hq,e])
def C8(T:BR):aB ->Nat->Prop
 |[],x=>T.done.testBit x=true
 |s::r,x=>∃y,Qv T (s%4) (decide (4<=s)) x y/\C8 T r y
def JR(len:Nat)(c:Bq):Bool:=if len=0 then !Du c else if len=1 then Du c else true
def Q0(m:Bi)(i q:Nat):Prop:=(i<m.feet.length/\∃c,aU[q]? =bT /\c.foot=i/\Dh c=true)\/(i=m.feet.length/\q=aU.length)
def TB(m:Bi)(i:Nat)(r:aB)(Am:Bool):Prop:=∃q,Q0 m i q/\mCV r
section
variable (m:Bi)
theorem TC(p:hA):mBl p<2 ^ bX:=by have h:=JQ p aU 0;rw[AsZ] at h;exact yL h
theorem K_(p:hA)(q:Nat):(mBl p).testBit q=true↔∃c,aU[q]? =bT /\p c=true:=by rw[M3];simp
theorem AgN(n q:Nat):((1<<<n) - 1).testBit q=decide (q<n):=by rw[AsE,Aui]
theorem AgO(n:Nat):(1<<<n) - 1<2 ^ (n+1):=by rw[AsE];have:2 ^ n<=2 ^ (n+1):=As5 aA aA;have:=AuS n;omega
theorem XV(Am:Bool)(hq:q<aJ.AW):(aJ.B2 len).testBit iT=true↔∃c,aU[q]? =bT /\JR len c=true:=by
 have a:aJZ.testBit iT=kY.testBit q:=M4 (TC m Du) hq Am;have he:aF1.testBit iT=decide (q<aU.length):=by rw[show aF1.testBit iT=aDS.testBit q from M4 (AgO _) hq Am,AgN]
 unfold BR.B2 JR;by_cases h0:len=0
 .rw[mK h0];show(aF1^^^aJZ).testBit _=true↔_;rw[AuR,a,he];simp only[h0,if_true];constructor
  .intro h;by_cases b:q<aU.length
   .refine(_,mJ b,5);rw[mU b] at h
    cases hc:Du aU[q] with
    |false=>rfl
    |true=>
     rw[aJ0.mpr (_,mJ b,hc)] at h
     cases h
   rw[mS b] at h;have:nI kY.testBit q:=fE;obtain⟨c,hc,_⟩:=aJ0.mp this;exact nL (jW).1 b
  rintro⟨c,hc,a⟩;rw[mU (jW).1]
  cases hb:kY.testBit q with
  |false=>rfl
  |true=>
   obtain⟨d,hd,e⟩:=aJ0.mp hb;rw[hc] at hd;cases hd;rw[e] at a;cases a
 rw[mM h0];by_cases f:len=1
 .rw[mK f];show aJZ.testBit _=true↔_;rw[a,K_];simp only[f,Nat.one_ne_zero,if_false,if_true]
 rw[mM f];show aF1.testBit _=true↔_;rw[he];simp only[h0,f,if_false,and_true,decide_eq_true_eq];constructor
 .intro h;exact(mCW h)
 rintro⟨c,hc⟩;exact(jW).1
theorem AgP(a Am:Bool)(hc:aDT):Gh aJ a iT=B5 aJ.AW q (Am||(a&&mBn c)):=by
 have b:aJ.cuts=AN aFX 0 aU:=rfl;unfold Gh
 cases Am with
 |true=>
  have:pV aJ.cuts.testBit (tP q true):=by rw[b];apply At1;refine Ass (TC m _) (As5 aA ?_);show aU.length+1<=q+bX;omega
  rw[mM (pD this)];rfl
 |false=>
  have hb:tP q false=q:=rfl;rw[hb,b,Bool.false_or]
  cases he:a with
  |false=>simp[B5]
  |true=>
   cases e:mBn c with
   |true=>
    rw[mK (2,(K_ m _ q).mpr (mO c hc e))];simp[B5]
   |false=>
    rw[Asa]
    .simp[B5]
    rintro⟨_,h⟩;obtain⟨d,hd,f⟩:=(K_ m _ q).mp h;rw[hc] at hd;cases hd;rw[e] at f;cases f
theorem AgQ(Am:Bool)(hc:aDT):aPT=HX c:=by
 have hq:=(jW).1;have:aPT=(mBl HX).testBit q:=M4 (TC m HX) aPU Am;rw[this,Aty,K_];constructor
 .rintro⟨d,hd,h⟩;rw[hc] at hd;cases hd;exact h
 intro h;exact(mO c hc h)
theorem XW(h:(cT.tail)[k]? =mB s)(q:Nat):aJ1=true↔Q0 m (k+1) q:=by
 rw[List.getElem?_tail] at h;by_cases hk:k+1<m.feet.length
 .rw[Ask (oD O3 hk)] at h;rw[XT h];simp;constructor
  .intro x;exact xB hk x
  rintro(⟨_,x⟩|⟨x,_⟩)
  .exact x
  omega
 rw[Aso (qT O3),O3] at h;have h0:k+1 - m.feet.length=0:=by
  cases e:k+1 - m.feet.length with
  |zero=>rfl
  |succ z=>rw[e] at h;simp at h
 rw[h0] at h;simp at h;subst h;rw[AsE,AtP];simp;constructor
 .intro x;exact mI (4,x.symm)
 rintro(⟨x,_⟩|⟨_,x⟩)
 .omega
 exact x.symm
theorem AgR(h:∀q,aJ1=true->q<B):s<2 ^ B:=by
 apply Atn;intro i a
 cases e:s.testBit i with
 |false=>rfl
 |true=>have:=h i e;omega
theorem AgS(Am:Bool)(hc:aDT)(y:Nat):
 (∃d∈ aJ.BP,mHH iT=true/\d.2.testBit y=true)↔(Gi c=true/\∃a,Q0 m aJ2 a/\y=tP a Am):=by
 have hq:=(jW).1;have b:aPV:=rfl;have hd:aJ.BP=FD aJ.AW (mHM m):=rfl;have ends:∀(k e:Nat),aCh[k]? =mB e->∀q,e.testBit q=true↔∃c,aU[q]? =bT /\c.foot=k/\Gi c=true:=by intro k e h q;rw[AgL h];simp;rfl
 have elt:∀(k e:Nat),aCh[k]? =mB e->e<2 ^ aJ.AW:=by intro k e h;apply AgR;intro z hz;obtain⟨c,hc,_⟩:=(ends k e h z).mp hz;have:=(jW).1;omega
 rw[hd];constructor
 .rintro⟨d,hd,g,i⟩;obtain⟨x,hx,j⟩:=Qz.mp hd;obtain⟨k,hk,l⟩:=Asy hx;obtain⟨he,hs⟩:=AuT.mp (mBo hk l);have key:x.1.testBit q=true/\∃a,x.2.testBit a=true/\y=B5 aJ.AW a Am:=by
   rcases j with rfl|rfl
   .cases Am with
    |false=>exact(g,y,i,2)
    |true=>
     exfalso;have:pV d.1.testBit (tP q true):=by apply At1;refine Ass (elt k _ he) (As5 aA ?_);show aJ.AW<=q+aJ.AW;omega
     rw[this] at g;cases g
   rw[Atr] at g i;simp at g i
   cases Am with
   |false=>
    exfalso;have:q>= aJ.AW:=g.1;omega
   |true=>
    refine(5,y - aJ.AW,i.2,5)
    .have:=g.2;simp only[B5,if_true,Nat.add_sub_cancel] at this;exact this
    simp only[B5,if_true];omega
  obtain⟨n,a,o,p⟩:=key;obtain⟨r,hc',hf,u⟩:=aPW.mp n;rw[hc] at hc';cases hc';refine(u,a,5,p);rw[hf];exact(XW m hs a).mp o
 rintro⟨u,a,hs,rfl⟩;obtain⟨k,f,v,A,_⟩:=aF2;rw[AsZ] at A;have B:=(nS v).1;obtain⟨C,he⟩:∃e:Nat,aCh[k]? =some e:=(mCW (show k<aCh.length by rw[XU];exact B));obtain⟨D,E⟩:∃s:Nat,(cT.tail)[k]? =some s:=(mCW (show k<cT.tail.length by simp[O3];omega));have hz:=(AuT (z:=(C,D,))).mpr (he,E);have hm:=Asl hz;have b1:=aPW.mpr (c,hc,A,u);have G:=(XW m E a).mpr (uJ A hs)
 cases Am with
 |false=>exact(_,Qz.mpr (_,hm,aZ),b1,G)
 |true=>
  refine(_,Qz.mpr (_,hm,dZ),5,5)
  .simp only[B5,if_true,Nat.testBit_shiftLeft,Nat.add_sub_cancel,b1,Bool.and_true,decide_eq_true_eq];omega
  simp only[B5,if_true,Nat.testBit_shiftLeft,Nat.add_sub_cancel,G,Bool.and_true,decide_eq_true_eq];omega
theorem TD(Am:Bool)(s:Nat)(r:aB)(hc:aDT):
 C8 aJ (s::r) iT ↔(JR (s%4) c=true/\
  if c.place+1=c.way.length then TB m aJ2 r aCj else C8 aJ r (tP (q+1) aCj)):=by
 have hq:=(jW).1;have a:aPV:=rfl;simp only[C8,Qv];rw[(XV m (len:=s%4) Am (q:=q) aA),AgP m _ Am hc,AgQ m _ hc];simp only[AgS m _ hc];constructor
 .rintro⟨y,⟨⟨b,hc',d⟩,h⟩,ha⟩;rw[hc] at hc';cases hc';refine(oH d);rcases h with⟨e,rfl⟩|⟨f,g,hs,rfl⟩
  .rw[mM (by simpa[HX,Gi] using e)];rw[show tP q aCj+1=B5 aJ.AW (q+1) aCj by unfold B5;omega] at ha;exact ha
  rw[mK (by simpa[Gi] using f)];exact(mO g hs ha)
 rintro⟨d,h⟩;by_cases hp:c.place+1=c.way.length
 .rw[mK hp] at h;obtain⟨g,hs,ha⟩:=h;exact(_,((mO c hc d),mI (by simpa[Gi] using hp,g,hs,2)),ha)
 rw[mM hp] at h;refine(_,((mO c hc d),mH (by simpa[HX,Gi] using hp,2)),5);rw[show tP q aCj+1=B5 aJ.AW (q+1) aCj by unfold B5;omega];exact h
theorem TF(Am:Bool)(hc:aDT):¬C8 aJ [] iT:=by
 have hq:=(jW).1;show¬(aAf<<<bX).testBit _=true;rw[Atr,AsE,AtP];show¬(decide (q+aF3 >= aU.length+1)&&decide (aU.length=q+aF3 - bX))=true
 cases Am<;>simp<;>omega
def O4(b:aB)(i:Nat)(w:Txt)(p a:Nat):Bool:=m.cuts.any λc=>c.1==i&&decide (p<=c.2)&&decide (c.2<w.length)&&decide (4<=sT (a+(c.2 - p)))
theorem XX(b:aB):∀(n:Nat)(q a:Nat)(c:Bq)(Am:Bool),c.way.length - c.place=n->c.place<c.way.length-> aU[q]? =bT ->
 (mCV aDU ↔(mEQ mER=true/\TB m aJ2 (b.drop (a+aJ3)) (Am||mEQ mHN)))
 |0,q,a,c,Am,d,hp,hc=>by omega
 |n+1,q,a,c,Am,d,hp,hc=>by
  by_cases ha:a<b.length
  .have hd:=As8 ha;have f:sT a=b[a]:=(vB Asv ha);have g:aJY=c.way[c.place]:=(vB Asv hp);have i:JR (b[a]%4) c=(mLE b[a]):=by
    have h4:b[a]%4=0\/b[a]%4=1\/2<=b[a]%4:=aA;unfold JR Du;rw[g];by_cases j:c.way[c.place]=45
    .rcases h4 with h4|h4|h4
     .simp[h4,j]
     .simp[h4,j]
     have k:b[a]%4≠0:=aA;have l:b[a]%4≠1:=aA;simp[k,l,j]
    rcases h4 with h4|h4|h4
    .simp[h4,j]
    .simp[h4,j]
    have k:b[a]%4≠0:=aA;have l:b[a]%4≠1:=aA;simp[k,l,j]
   rw[hd,TD m Am _ _ hc,i];have o:mEQ mHN=((decide (4<=b[a])&&mBn c)||aJ4):=by
    unfold O4 El;rw[<-f];have:(decide (4<=sT a)&&m.cuts.any λx=>x.1==c.foot&&x.2==c.place)=m.cuts.any λx=>decide (4<=sT a)&&(x.1==c.foot&&x.2==c.place):=by
     cases decide (4<=sT a) with
     |true=>simp
     |false=>simp
    rw[this,<-T3];apply Mz;intro x _;by_cases e:x.2=c.place
    .have k:¬(c.place+1<=x.2):=aA;have l:c.place<=x.2:=aA;have p:oO aPX:=hS;have r:x.2 - c.place=0:=aA;rw[mS k,mU l,mU aA,p,r,Nat.add_zero]
     cases (x.1==c.foot)<;>cases decide (4<=sT a)<;>rfl
    have p:pG aPX:=hS;have s:decide (c.place<=x.2)=decide (c.place+1<=x.2):=aDV;rw[p,s]
    cases (x.1==c.foot)<;>cases decide (4<=sT a)<;>simp
   rw[o];have u:mEQ mER=((mLE b[a])&&mER b kZ (a+1)):=by unfold Ct;rw[hd,(As8 hp)];simp only[List.zip_cons_cons,List.all_cons,List.length_cons];rw[show decide (a+(aPY+1)<=b.length)=decide (a+1+aPY <=b.length) from aDV];rw[<-Bool.and_assoc,Bool.and_comm (decide _),Bool.and_assoc]
   rw[u];by_cases v:c.place+1=c.way.length
   .rw[mK v];have y:c.way.drop kZ=[]:=(pD v);have z:mER b kZ (a+1)=true:=by
     rw[y];simp[Ct];omega
    have A:pG aJ4:=by
     apply Qu;intro x _;by_cases e:c.place+1<=x.2
     .have k:¬x.2<c.way.length:=aA;rw[mS k];simp
     rw[mS e];simp
    rw[z,A,Bool.and_true,Bool.or_false,show a+aJ3=a+1 by omega]
   rw[mM v];have B:=XX b n (q+1) (a+1) aF0 (Am||(decide (4<=b[a])&&mBn c)) aPZ (by show c.place+1<c.way.length;omega) aP0;simp only at B;rw[B,AsF];have C:mHN b kZ (a+1)=aJ4:=by
    apply Mz;intro x _;by_cases e:c.place+1<=x.2
    .rw[show a+1+(x.2 - kZ)=a+(x.2 - c.place) by omega]
    rw[mS e];simp
   rw[C,Bool.or_assoc,show a+1+(c.way.length - kZ)=a+aJ3 by omega,and_assoc]
  have hd:aDU=[]:=dM;rw[hd];constructor
  .intro h;exact mHO hc
  rintro⟨h,_⟩;exfalso;simp only[Ct,Bool.and_eq_true,decide_eq_true_eq,List.length_drop] at h;omega
theorem XY(d:aB)(a q:Nat)(Am:Bool)(ha:a<=d.length)(hq:q=aU.length):mCV (d.drop a) ↔(a=d.length/\Am=true):=by
 have e:∀b:Bool,aJ.done.testBit (tP q b)=b:=by
  intro b;show(aAf<<<bX).testBit (q+(mLF b))=b;rw[Atr,AsE,AtP,hq]
  cases b with
  |true=>simp
  |false=>
   have:decide (aU.length+(if false=true then aU.length+1 else 0)>= aU.length+1)=false:=aC;rw[this];rfl
 by_cases he:a=d.length
 .have hd:d.drop a=[]:=(pD he);rw[hd];simp only[C8,e,he,true_and]
 have hd:d.drop a=d[a]' aA::d.drop (a+1):=As8 aA;rw[hd];constructor
 .rintro⟨y,⟨hf,_⟩,_⟩;rw[XV m Am aPU] at hf;obtain⟨c,hc,_⟩:=hf;have:=(jW).1;omega
 rintro⟨h,_⟩;exact nL h he
theorem TH(b:aB)(ok:m.Ok):∀(n i a:Nat)(Am:Bool),m.feet.length - i=n->i<=m.feet.length->a<=b.length->(TB m i aDU Am↔mHP i≠[])
 |0,i,a,Am,d,e,ha=>by
  have hd:m.feet.drop i=[]:=dM;rw[hd];simp only[Bz];constructor
  .rintro⟨q,hs,h⟩;rcases hs with⟨hs,_⟩|⟨_,hq⟩
   .omega
   rw[mK ((XY m b a q Am ha hq).mp h)];simp
  intro h;refine(_,mI (4,2),(XY m b a _ Am ha rfl).mpr ?_);by_cases hc:a=b.length/\Am=true
  .exact hc
  rw[mM hc] at h;exact aAg
 |n+1,i,a,Am,d,e,ha=>by
  have g:vY i:=aA;have hd:=As8 g;have hlen:∀w∈m.feet[i],1<=w.length:=by intro w hw;have:=((mCX ok.Bz i g).2.2) w hw;simp only[Eh,Bool.and_eq_true,decide_eq_true_eq] at this;exact this.1.1
  have step:∀q w,aU[q]? =mB (mO i w 0)->w∈m.feet[i]->(mCV aDU ↔(aA5=true/\mHQ aDW aJ5 ≠[])):=by
   intro q w hc hw;have h:=XX m b w.length q a (mO i w 0) Am rfl (hlen w hw) hc;simp at h;rw[h];have l:O4 m b i w 0 a=Ei m.cuts b i w a:=by apply Mz;intro x _;simp
   rw[l];constructor
   .rintro⟨o,p⟩;have hle:mHR a:=aP1;exact(o,aP2.mp p)
   rintro⟨o,p⟩;have hle:mHR a:=aP1;exact(o,aP2.mpr p)
  rw[hd];simp only[Bz];constructor
  .rintro⟨q,hs,h⟩;rcases hs with⟨_,c,hc,hf,r⟩|⟨hs,_⟩
   .obtain⟨k,f,o,p,s,h4⟩:=aF2;have hk:k=i:=aA;subst hk;have u:f=m.feet[k]:=(by rw[mJ g] at o;exact(Ase o).symm);subst u;have hc':pC aU[q]? (mO k c.way 0):=by
     rw[hc];have v:c.place=0:=(by simpa[Dh] using r);rw[<-v,<-hf]
    obtain⟨g1,g2⟩:=(step q c.way hc' s).mp h;intro y;rw[Avc] at y;obtain⟨j,hj,A⟩:=Asy s;have hz:(c.way,j,)∈m.feet[k].zipIdx:=by rw[List.mem_zipIdx_iff_getElem?];simp only;rw[cW,A]
    have:=y _ hz;rw[mK g1,At2] at this;exact g2 this
   omega
  intro h;have:∃w∈m.feet[i].zipIdx,(if mAd w.1=true then(mHQ aPD (Am||mBp w.1)).map (w.2::·) else[])≠[]:=by apply Awc;intro B;apply h;rw[Avc];intro w hw;apply Awc;intro C;exact B (mO w hw C)
  obtain⟨w,hw,C⟩:=this;have D:=Asl (AgE (x:=w.1) (j:=w.2) hw);split at C
  .rename_i E;obtain⟨q,hq⟩:=AgM m.feet 0 i m.feet[i] w.1 (mJ g) D (hlen w.1 D);rw[AsZ] at hq;exact(q,mH (g,_,hq,29),(step q w.1 hq D).mpr (E,(λz=>C (qF z))))
  exact uK C
theorem XZ(ok:m.Ok)(a:aB):(∃x,aJ.first.testBit x=true/\C8 aJ a x)↔mAg a≠[]:=by
 have h:=TH m a ok m.feet.length 0 0 m.cuts.isEmpty aA aR aR;rw[Atv,Atv] at h;rw[<-h];have hp:=ok.Qr;have b:∃s,(mAf Br)[0]? =mB s/\ aAh=s:=by
  cases e:m.feet with
  |nil=>rw[e] at hp;simp at hp
  |cons f r=>exact aA8
 obtain⟨s,hs,c⟩:=b;have hb:∀q,aJ1=true↔Q0 m 0 q:=by
  intro q;rw[XT hs];simp;constructor
  .intro x;exact xB hp x
  rintro(⟨_,x⟩|⟨x,_⟩)
  .exact x
  omega
 have d:aJ.first=if m.cuts=[] then s<<<aJ.AW else s:=by show(if m.cuts=[] then aAh<<<bX else aAh)=_;rw[c];rfl
 rw[d];by_cases hc:m.cuts=[]
 .rw[mK hc];have he:oO m.cuts.isEmpty:=(qF hc);rw[he];constructor
  .rintro⟨x,hx,ha⟩;rw[Atr,AsF,Aup] at hx;refine(x - aJ.AW,(hb _).mp hx.2,5);have:tP (x - aJ.AW) true=x:=(by simp only[B5,if_true];omega);rw[this];exact ha
  rintro⟨q,hq,ha⟩;refine(_,5,ha);simp only[B5,if_true,Nat.testBit_shiftLeft,Nat.add_sub_cancel,(hb q).mpr hq,Bool.and_true,decide_eq_true_eq];omega
 rw[mM hc];have he:pG m.cuts.isEmpty:=aF4;rw[he];constructor
 .rintro⟨x,hx,ha⟩;exact(x,(hb x).mp hx,ha)
 rintro⟨q,hq,ha⟩;exact(q,(hb q).mpr hq,ha)
end
def M5:Txt:=[97,101,105,111,117,121,65,69,73,79,85,89]
def FF:List Txt:=[[97,101],[97,117],[111,101],[101,117]]
def Dp(s:Txt):Bool:=decide (aDX ∈M5)
def HY(s:Txt):Bool:=decide (s∈FF)||(decide (s.length=1)&&mEL aDX)
def GM(s:Txt):Prop:=(∃c,s=[c]/\isLetter c=true)\/∃c d,s=[c,d]/\ aDJ=true
theorem X_(c:Nat):aFM=true↔c∈([97,101,105,111,117,121]:aB):=by unfold isVowel;rw[List.contains_iff_mem]
theorem Q3(c:Nat):mEL c=true↔c∈([65,69,73,79,85,89]:aB):=by unfold isCapital;rw[List.contains_iff_mem]
theorem AgT(c:Nat):decide (c∈M5)=(aFM||mEL c):=by rw[Aty];simp only[decide_eq_true_eq,Bool.or_eq_true,X_,Q3];unfold M5;grind
theorem Q4(c d:Nat):aDJ=true↔[c,d]∈FF:=by unfold isPair FF;simp
theorem Q5(h:GM s):BO s=if Dp s then .vowel (HY s) else .cons aDX:=by
 rcases h with⟨c,rfl,_⟩|⟨c,d,rfl,h⟩
 .have hp:¬([c]:Txt)∈FF:=aP3;unfold BO Dp HY;rw[mS hp];rw[AgT];by_cases a:aFM=true
  .have b:pV isCapital c:=by
    rw[Bool.eq_false_iff];intro q;rw[X_] at a;rw[Q3] at q;simp at a q;omega
   simp[a,b]
  simp_all
 have hm:=(Q4 c d).mp h;have e:decide (c∈M5)=true:=by unfold FF at hm;simp at hm;rcases hm with⟨rfl,_⟩|⟨rfl,_⟩|⟨rfl,_⟩|⟨rfl,_⟩<;>decide
 unfold BO Dp HY;grind
theorem La:∀(p:Nat)(w:Txt),w.all isLetter=true->∀s∈Cg p w,GM s
 |_,[],_,s,h=>by simp[Cg] at h
 |p,[c],hw,s,h=>by
  simp at hw;simp only[Cg] at h;split at h
  .simp at h
  simp at h;exact mH (mO c h hw)
 |p,c::d::r,hw,s,h=>by
  simp only[List.all_cons,Bool.and_eq_true] at hw;have a:=hw.2.2;have b:nI kU.all isLetter:=(by simp[hw.2.1,a]);simp only[Cg] at h;split at h
  .rename_i hp;split at h
   .exact La d r a s h
   rcases gO with rfl|h
   .exact mI (c,d,2,hp)
   exact La d r a s h
  split at h
  .exact La c kU b s h
  rcases gO with rfl|h
  .exact mH (mO c rfl hw.1)
  exact La c kU b s h
theorem Q6:∀(p:Nat)(w:Txt),(Cg p w).length<=w.length
 |_,[]=>by simp[Cg]
 |p,[c]=>by simp only[Cg];split<;>simp
 |p,c::d::r=>by
  have a:=Q6 d r;have b:=Q6 c kU;simp at b;simp only[Cg];grind
def GN(l:Txt)(i:Nat):Nat:=if i=0 then 0 else mCY (i - 1)
def GO(l:Txt)(i:Nat):Bool:=Ge (GN l i) (mCY i)
def D8(l:Txt)(i:Nat):Txt:=if aF5 ∈FF then aF5 else[mCY i]
theorem AgU(l:Txt)(i:Nat):1<= aAi.length/\ aAi.length<=2:=by
 unfold D8;split
 .rename_i h;unfold FF at h;grind
 simp
theorem AgV(l:Txt)(i:Nat)(a:aFT):i+aAi.length<=l.length:=by unfold D8;grind
theorem AgW(l:Txt)(i:Nat)(a:aFT):mES i=(if GO l i then[] else[aAi])++Cg (GN l aP4) (mET aP4):=by
 have hd:=As8 a;have hg:mCY i=l[i]:=(vB Asv a);have b:GN l (i+1)=l[i]:=(by unfold GN;rw[fF,At6,hg]);by_cases c:i+1<l.length
 .have d:=As8 c;have e:mCY (i+1)=l[i+1]:=(vB Asv c);have f:GN l (i+2)=l[i+1]:=(by unfold GN;rw[fF,show i+2 - 1=i+1 by omega,e]);have g:aF5=[l[i],l[i+1]]:=(yM hd d);rw[hd,d];simp only[Cg];by_cases hp:isPair l[i] l[i+1]=true
  .have hs:aAi=[l[i],l[i+1]]:=(by unfold D8;rw[g,mK ((Q4 _ _).mp hp)]);rw[mK hp,hs];show _=_++mES (i+2);rw[f];unfold GO;rw[hg];split<;>rfl
  have hs:aAi=[l[i]]:=(by unfold D8;rw[g,vA hp ((Q4 _ _).mpr q),hg]);rw[mM hp,hs];show _=_++sS mES;rw[b,d];unfold GO;rw[hg];split<;>rfl
 have he:sS l.drop=[]:=dM;have g:aF5=[l[i]]:=(yM hd he);have hs:aAi=[l[i]]:=by unfold D8;rw[g,mM aP3,hg]
 rw[hd,he,hs];show Cg _ [l[i]]=_++sS mES;rw[he];simp only[Cg];unfold GO;rw[hg];split<;>simp
def JS:aDK ->Nat-> aDK
 |[],_=>[]
 |[x],c=>[(x.1,x.2++[c],)]
 |x::y::r,c=>x::JS jU c
theorem TJ:∀(s:iQ)(g:Bool),Bs aJ6=((cR).1,(cR).2++[(g,[],)],)
 |[],g=>rfl
 | .cons c::r,g=>by simp only[List.cons_append,Bs,TJ r g]
 | .vowel b::r,g=>by simp only[List.cons_append,Bs,TJ r g]
theorem TK:∀(s:iQ)(c:Nat),Bs aJ7=if(cR).2=[] then((cR).1++[c],[],) else((cR).1,JS (cR).2 c,)
 |[],c=>rfl
 | .cons b::r,c=>by
   have a:=TK r c;simp only[List.cons_append,Bs,a];grind
 | .vowel g::r,c=>by
   have a:=TK r c;simp only[List.cons_append,Bs,a];split
   .rename_i h;simp[h,JS]
   rename_i h;simp only[reduceCtorEq,if_false]
   cases e:(Bs r).2 with
   |nil=>exact nL e h
   |cons y q=>simp[JS]
def DK(s:iQ):List aB:=(cR).1::(cR).2.map (·.2)
def EI(s:iQ):List Bool:=(cR).2.map (·.1)
theorem Ya:∀(l:aDK)(c:Nat),(JS l c).map (·.1)=aA9
 |[],_=>rfl
 |[x],_=>rfl
 |x::y::r,c=>by simp only[JS,List.map_cons,Ya jU c]
theorem Yb:∀(l:aDK)(c:Nat),l≠[]->(JS l c).map (·.2)=(sD (·.2)).dropLast++[((sD (·.2)).getLast?.getD [])++[c]]
 |[],_,h=>aAg
 |[x],_,_=>rfl
 |x::y::r,c,_=>by
  have:=Yb jU c aC;simp only[JS,List.map_cons] at this⊢;rw[this];simp
theorem AgX(s:iQ)(g:Bool):DK aJ6=DK s++[[]]/\EI aJ6=EI s++[g]:=by unfold DK EI;rw[TJ];simp
theorem AgY(s:iQ)(c:Nat):DK aJ7=(DK s).dropLast++[((DK s).getLast?.getD [])++[c]]/\EI aJ7=EI s:=by
 unfold DK EI;rw[TK];split
 .rename_i h;simp[h]
 rename_i h;refine(5,Ya _ _);rw[mC Yb h]
 cases e:(cR).2.map (·.2) with
 |nil=>exact nL e fE
 |cons y q=>simp
theorem AgZ(s:iQ):DU s=(Ez ((DK s).headD []),mLG (EI s) (DK s).tail):=by
 unfold DU DK EI;simp only[List.headD_cons,List.tail_cons,BU.mk.injEq,true_and];generalize (cR).2=l
 induction l with
 |nil=>rfl
 |cons x r a=>simp
end Vf
namespace Vf
open Kgz1
theorem Q7:∀(l w:Txt),splitOn l w=(parts 32 l w).filter λp=> !p.isEmpty
 |[],w=>by
  cases w<;>simp[splitOn,parts]
 |c::r,w=>by
  unfold splitOn parts;by_cases h:c=32
  .rw[fZ,fZ]
   cases w with
   |nil=>simp[Q7 r []]
   |cons x y=>simp[Q7 r []]
  rw[gM,gM];exact Q7 r (w++[c])
theorem TM(l:Txt):aFO=(mCR 32 l).filter λp=> !p.isEmpty:=Q7 l []
theorem TN(c:Nat):∀(b w:Txt)(p:Txt),p∈ aDN ->∀x∈p,x∈b\/x∈w
 |[],w,p,h,x,hx=>by
  simp only[parts,List.mem_singleton] at h;subst h;exact mI hx
 |d::r,w,p,h,x,hx=>by
  unfold parts at h;split at h
  .rcases gO with rfl|h
   .exact mI hx
   rcases TN c r [] p h x hx with q|q
   .exact mH (sE q)
   simp at q
  rcases TN c r aDO p h x hx with q|q
  .exact mH (sE q)
  grind
theorem TQ(c:Nat):∀(b w:Txt),(∀x∈w,x≠c)->∀p∈ aDN,∀x∈p,x≠c
 |[],w,hw,p,h=>by
  simp only[parts,List.mem_singleton] at h;subst h;exact hw
 |d::r,w,hw,p,h=>by
  unfold parts at h;split at h
  .rcases gO with rfl|h
   .exact hw
   exact TQ c r [] aC p h
  rename_i hd;refine TQ c r aDO dY p h;grind
theorem Ag_(h:nI okLine l):∀p∈ aFO,p.all isLetter=true:=by intro p hp;rw[TM] at hp;have a:=(AtO.mp hp).1;rw[AsL];intro x hx;have b:=TQ 32 l [] aC p a x hx;have c:=TN 32 l [] p a x hx;simp at c;have d:=vW h x c;grind
end Vf
namespace Vf
open Kgz1
def Hr(ss:dL):List Txt:=match ss.reverse with
 |[]=>ss
 |a::r=>if Dp a then r.reverse else match r with
  |[]=>ss
  |b::q=>if a=[109]/\Dp b=true then q.reverse else ss
theorem Q8(h:GM s):(∃g,BO s= .vowel g)↔Dp s=true:=by
 rw[Q5 h];by_cases e:Dp s=true
 .simp[e]
 simp[e]
theorem TR(h:GM s)(a:pV Dp s):BO s= .cons aDX /\s=[aDX]:=by
 refine(by rw[Q5 h,a];rfl,5);rcases h with⟨c,rfl,_⟩|⟨c,d,rfl,h⟩
 .rfl
 exfalso;have:=Q5 (.inr (c,d,2,h):GM [c,d]);rw[a] at this;simp[BO] at this
theorem Aha(h:aF6):(Hr ss).map BO=cut lA:=by
 unfold Hr cut;rw[<-List.map_reverse];have c:∀s∈ss.reverse,GM s:=λs hs=>h s (mLH hs)
 cases e:ss.reverse with
 |nil=>simp
 |cons a r=>
  rw[e] at c;have ha:=c a aC;simp;by_cases d:Dp a=true
  .obtain⟨g,hg⟩:=(Q8 ha).mpr d;rw[hg,mK d];simp
  have f:pV Dp a:=(mR d);obtain⟨hc,hs⟩:=TR ha f;rw[hc,mM d]
  cases r with
  |nil=>
   simp
  |cons b q=>
   have hb:=c b aC;simp only[List.map_cons];by_cases i:a=[109]/\Dp b=true
   .rw[mK i];obtain⟨g,hg⟩:=(Q8 hb).mpr i.2;rw[hg,i.1];simp
   rw[mM i];split
   .rename_i z;simp at z
   .rename_i g z j;exfalso;simp only[List.cons.injEq] at j;obtain⟨k,l,_⟩:=j;apply i;injection k with m
    refine(by rw[hs,m],(Q8 hb).mp (qU l))
   rfl
theorem Ahb(h:s∈Hr ss):s∈ss:=by unfold Hr at h;grind
theorem Ahc(ss:dL):mBq Hr ss ss.length:=by have a:ss.reverse.length=ss.length:=AvC;unfold Hr;grind
theorem Ahd(r:dL)(a:Txt):Hr (r++[a])=if Dp a then r else if a=[109]/\(∃b,r.getLast?=mB b/\Dp b=true) then r.dropLast else r++[a]:=by
 unfold Hr;rw[List.reverse_append];simp;split
 .rfl
 rcases AsR r with rfl|⟨q,b,rfl⟩
 .simp
 simp
def GP(ss:dL):Nat:=match ss with
 |[]=>0
 |a::_=>if Dp a then 1 else 0
theorem Yc(h:aF6):(GP ss=1)=(nI begins lA)/\GP ss<=1:=by
 cases ss with
 |nil=>simp[GP,begins]
 |cons a r=>
  have ha:=hR;unfold GP;simp only[List.map_cons];by_cases b:Dp a=true
  .obtain⟨g,hg⟩:=(Q8 ha).mpr b;rw[hg,mK b];simp[begins]
  have c:pV Dp a:=(mR b);rw[(TR ha c).1,mM b];simp[begins]
end Vf
namespace L2
open PySem PySem.Spec
inductive Ky where
 |num (i:Int)
 |Ce (x:Str)
 |Al (l:iU)
noncomputable instance ArR:DecidableEq Ky:=λa b=>mLI b
mutual
def Ky.depth:Ky->Nat
 | .num _=>0
 | .Ce _=>0
 | .Al l=>aDY+1
def Ky.C2:iU ->Nat
 |[]=>0
 |k::r=>max (Ky.depth k) (Ky.C2 r)
end
mutual
def EW(h:Heap):Ky->Value->Prop
 | .num i,v=>(∃t,v= aDZ)\/∃b,v= .bool b/\i=if b then 1 else 0
 | .Ce x,v=>∃t,v= .str x t
 | .Al l,v=>∃a o items n,v= aI /\oT a=aH /\o.cls= hB /\o.data= mAh items/\Ht h l items.toList
def Ht(h:Heap):iU -> aT ->Prop
 |[],vs=>vs=[]
 |k::a,vs=>∃v r,vs=v::r/\EW h k v/\Ht h a r
end
mutual
def Ky.hash(w:World):Ky->Int
 | .num i=>hashInt i
 | .Ce x=>hashStr w x
 | .Al l=>reduceHash aCk
def Ky.GQ(w:World):iU -> bG
 |[]=>[]
 |k::r=>Ky.hash w k::Ky.GQ w r
end
mutual
def Ky.draws:Ky->Nat
 | .num _=>1
 | .Ce _=>1
 | .Al l=>Ky.JT l+1
def Ky.JT:iU ->Nat
 |[]=>0
 |k::r=>Ky.draws k+Ky.JT r
end
section
variable {prog:Program} {w:World} {A:Around} {E:bK} {s:Shared} {h:Heap}
theorem Yd(hq:mHS (hashInt (mAi b)) 1):wpAny bC A (pyHash (.bool b)) Q E s:=by
 have a:=typeIs_bool s b;have c:[aJ8].any Value.onHeap=false:=rfl;refine cG;rw[cRoomFor,mAj c];refine cO;refine aP5;rw[aP6];refine aP5;have d:=rawHash_range (mAi b);refine ArZ (AuG a Avk
  (Atf Avk a F.entry_int_hash
   (show qN (do ret (<-mkInt (mHT b))) s from aP7) (by first|rfl|exact args_int_hash _|decide)))
 show mLJ (decide (-(2:Int) ^ 63<=mHT b)&&decide (mHT b<2 ^ 63));rw[mK (by rw[mU d.1,mU d.2];rfl)];exact aAj
theorem Ahe:∀(n:Nat){A:Around}{E:bK}{s:Shared}{k:Ky}{v:Value}{Q:mEU Int},k.depth<=n->A.units+n<cLine->mCZ k->Q (k.hash w) {s with toks:=s.toks+k.draws}->
 wpAny bC A (pyHash v) Q E s:=by
 intro n
 induction n with
 |zero=>
  intro A E s k v Q hd hu hk hq
  cases k with
  |num i=>
   rcases hk with⟨t,rfl⟩|⟨b,rfl,rfl⟩
   .exact mHU hq
   exact Yd hq
  |Ce x=>
   obtain⟨t,rfl⟩:=hk;exact aP8
  |Al l=>simp[Ky.depth] at hd
 |succ n c=>
  intro A E s k v Q hd hu hk hq
  cases k with
  |num i=>
   rcases hk with⟨t,rfl⟩|⟨b,rfl,rfl⟩
   .exact mHU hq
   exact Yd hq
  |Ce x=>
   obtain⟨t,rfl⟩:=hk;exact aP8
  |Al l=>
   have f:∃a,v= aI /\s.TypeIs v "tuple":=by obtain⟨a,o,_,_,rfl,g,j,_⟩:=hk;exact(a,2,o,g,j)
   obtain⟨a,rfl,f⟩:=f;obtain⟨b,o,items,m,e,p,_,q,r⟩:=hk
   cases e
   refine vZ wpAny_cRoomFor_or (mI aA);refine aP9;rw[aP6];refine aP9;refine mZ (AuG f Avd (Atf Avd f F.entry_tuple_hash ?_ (F.args_tuple_hash_1 _)));show mLK aI;refine pO AvM p q;refine cG;rw[<-Array.forIn_toList];refine wpAny_forIn_list _
    (λrest(b:Array Int)u=>∃(left:iU)(hs:bG)(d:Nat),Ky.C2 left<=n/\Ht s.heap left rest/\b.toList=hs/\Ky.GQ w l=hs++Ky.GQ w left/\Ky.JT l=d+Ky.JT left/\u={s with toks:=s.toks+d})
    _ ?_ ?_ _ _ (l,[],60,aBa,r,29,(AsZ _).symm,2)
   .rintro x rest b u ⟨left,hs,d,y,z,hb,B,C,rfl⟩
    cases left with
    |nil=>cases (show x::rest=[] from z)
    |cons k D=>
     obtain⟨v',G,e,g,H⟩:=z
     cases e
     have I:mBr D:=(by simp only[Ky.C2] at y;omega);refine mZ (c (A:=A.in1) I.1 aQa g ?_)
     first
      |exact mLL H
      |exact sU (mLL H)
   rintro b u ⟨left,hs,d,y,z,hb,B,C,rfl⟩
   cases left with
   |cons k D=>
    obtain⟨_,_,e,_⟩:=z
    cases e
   |nil=>
    simp only[Ky.GQ,List.append_nil] at B;simp only[Ky.JT,Nat.add_zero] at C;subst B;subst C;show qN (retInt (Builtin.Tuple.tupleHashOf b.toList)) _;rw[hb];refine aP7;have J:mHS (reduceHash aCk) (Ky.JT l+1):=hq;show mLJ (decide (-(2:Int) ^ 63<= aCk)&&decide (aCk<2 ^ 63));unfold reduceHash at J;by_cases L:(decide (-(2:Int) ^ 63<= aCk)&&decide (aCk<2 ^ 63))=true
    .rw[mK L];rw[mK L] at J;exact Asg aQb
    rw[mM L];rw[mM L] at J;exact yN Ava aQb
theorem Ye:∀(n:Nat),(∀(x y:Ky)(v:Value),x.depth<=n->EW h x v->EW h y v->x=y):=by
 intro n
 induction n with
 |zero=>
  intro x y v hd hx hy
  cases x with
  |num i=>
   cases y with
   |num j=>
    rcases hx with⟨t,rfl⟩|⟨b,rfl,rfl⟩
    .rcases hy with⟨u,e⟩|⟨b,e,_⟩
     .cases e;rfl
     cases e
    rcases hy with⟨u,e⟩|⟨c,e,rfl⟩
    .cases e
    cases e;rfl
   |Ce y=>
    obtain⟨u,rfl⟩:=hy;rcases hx with⟨t,e⟩|⟨b,e,_⟩<;>cases e
   |Al m=>
    obtain⟨a,_,_,_,rfl,_⟩:=hy;rcases hx with⟨t,e⟩|⟨b,e,_⟩<;>cases e
  |Ce x=>
   obtain⟨t,rfl⟩:=hx
   cases y with
   |num j=>rcases hy with⟨u,e⟩|⟨b,e,_⟩<;>cases e
   |Ce y=>obtain⟨u,e⟩:=hy;cases e;rfl
   |Al m=>obtain⟨a,_,_,_,e,_⟩:=hy;cases e
  |Al l=>simp[Ky.depth] at hd
 |succ n d=>
  intro x y v hd hx hy
  cases x with
  |num i=>exact Yf (xB i rfl) hx hy
  |Ce x=>exact Yf (xC x rfl) hx hy
  |Al l=>
   obtain⟨a,o,items,m,rfl,f,g,p,h4⟩:=hx
   cases y with
   |num j=>rcases hy with⟨u,e⟩|⟨b,e,_⟩<;>cases e
   |Ce y=>obtain⟨u,e⟩:=hy;cases e
   |Al q=>
    obtain⟨z,o',B,C,e,g1,g2,g3,D⟩:=hy
    cases e
    rw[f] at g1
    cases g1
    rw[p] at g3;injection g3 with g3 _
    subst g3;have all:∀(l q:iU)(vs:aT),aDY <=n->Ht h l vs->Ht h q vs->l=q:=by
     intro l
     induction l with
     |nil=>
      intro q vs _ G H;subst G
      cases q with
      |nil=>rfl
      |cons _ _=>obtain⟨_,_,e,_⟩:=H;cases e
     |cons k I J=>
      intro q vs hd2 G H;obtain⟨v,r,rfl,L,M⟩:=G
      cases q with
      |nil=>cases (show v::r=[] from H)
      |cons N O=>
       obtain⟨v',Q,e,T,U⟩:=H
       cases e
       have Y:mBr I:=aF7;rw[d k N v Y.1 L T,J O r Y.2 M U]
    rw[all l q _ aBa h4 D]
where
 Yf {x y:Ky} {v:Value} (hf:(∃i,x= .num i)\/∃z,x= .Ce z) (hx:EW h x v) (hy:EW h y v):x=y:=by
  rcases hf with⟨i,rfl⟩|⟨z,rfl⟩
  .cases y with
   |num j=>
    rcases hx with⟨t,rfl⟩|⟨b,rfl,rfl⟩
    .rcases hy with⟨u,e⟩|⟨b,e,_⟩
     .cases e;rfl
     cases e
    rcases hy with⟨u,e⟩|⟨c,e,rfl⟩
    .cases e
    cases e;rfl
   |Ce y=>
    obtain⟨u,rfl⟩:=hy;rcases hx with⟨t,e⟩|⟨b,e,_⟩<;>cases e
   |Al m=>
    obtain⟨a,_,_,_,rfl,_⟩:=hy;rcases hx with⟨t,e⟩|⟨b,e,_⟩<;>cases e
  obtain⟨t,rfl⟩:=hx
  cases y with
  |num j=>rcases hy with⟨u,e⟩|⟨b,e,_⟩<;>cases e
  |Ce y=>obtain⟨u,e⟩:=hy;cases e;rfl
  |Al m=>obtain⟨a,_,_,_,e,_⟩:=hy;cases e
theorem Ahf(i j:Int):decide (Ky.num i=Ky.num j)=aD0:=by grind
theorem Ahg(i j:Str):decide (Ky.Ce i=Ky.Ce j)=aD0:=by grind
theorem Ahh:∀(n:Nat){A:Around}{E:bK}{s:Shared}{x y:Ky}{u v:Value}{Q:aF8},x.depth<=n->A.units+n<cLine->tQ EW x u->mCZ y->Q (decide (x=y)) s->
 wpAny bC A aJ9 Q E s:=by
 intro n
 induction n with
 |zero=>
  intro A E s x y u v Q hd hu hx hy hq
  cases x with
  |num i=>exact mEV Yg
  |Ce z=>exact mEV Yh
  |Al l=>simp[Ky.depth] at hd
 |succ n aa=>
  intro A E s x y u v Q hd hu hx hy hq
  cases x with
  |num i=>exact mEV Yg
  |Ce z=>exact mEV Yh
  |Al l=>
   obtain⟨a,oa,xs,na,rfl,c,d,f,ab⟩:=hx;have g:s.heap.IsTuple a xs:=(oa,c,d,na,f)
   cases y with
   |num j=>
    have k:decide (Ky.Al l=Ky.num j)=false:=aAk;rw[k] at hq;rcases hy with⟨t,rfl⟩|⟨b,rfl,_⟩
    .exact SeqAt.EqAt.tuple_int j t g aA _ _ _ _ hq
    exact SeqAt.EqAt.tuple_bool b g aA _ _ _ _ hq
   |Ce z=>
    have k:decide (Ky.Al l=Ky.Ce z)=false:=aAk;rw[k] at hq;obtain⟨t,rfl⟩:=hy;exact SeqAt.EqAt.tuple_str z t g aA _ _ _ _ hq
   |Al m=>
    obtain⟨b,ac,ys,nb,rfl,o,ae,af,ag⟩:=hy;have ah:s.TypeIs aI "tuple":=(mO oa c d);have ai:s.TypeIs bW "tuple":=(mO ac o ae);rw[(At0.mpr (158,λq=>by rw[q]))] at hq;unfold eqBool
    try with_reducible refine Au0 ?_
    by_cases p:(rE a==rE b)=true
    .rw[mK p];have e:a=b:=(by have:=mEW p;injection this);subst e;have B:Ky.Al l=Ky.Al m:=Ye (h:=s.heap) (n+1) _ _ aI hd (a,oa,xs,na,2,c,d,f,ab) (a,ac,ys,nb,2,o,185,ag);injection B with B
     exact yN Ava (by simpa[B] using hq)
    rw[mM p];refine ArZ (wpAny_richCompare_same_room (op:= .Eq) ah ai F.slot_tuple_eq
     (Atf F.slot_tuple_eq ah F.entry_tuple_eq ?_ (F.args_tuple_eq_2 _ _)) aA)
    show qN (isInstance bW hB >>= _) s;refine mLM ai;simp only[Bool.not_true,Bool.false_eq_true,if_false];refine pO AvM c f;refine pO AvM o af;refine cG;refine wpAny_forIn_list _
     (λrest r C=>r.1=none/\C=s/\∃D G H I,rest=List.zip H I/\Ky.C2 D<=n/\tQ Ht D H/\tQ Ht G I/\decide (D=G)=decide (l=m)/\(H.length==I.length)=aKa)
     _ ?_ ?_ _ _ (29,l,m,xs.toList,ys.toList,2,aBa,ab,ag,2,9)
    .rintro⟨u,v⟩ rest r C ⟨J,rfl,D,G,H,I,hz,aj,hx',L,M,hlen⟩
     cases D with
     |nil=>
      have e:=hx';subst e;simp at hz
     |cons N O=>
      obtain⟨u',ak,rfl,al,am⟩:=hx'
      cases G with
      |nil=>
       have e:=L;subst e;simp at hz
      |cons T U=>
       obtain⟨v',Y,rfl,an,ao⟩:=L;simp only[List.zip_cons_cons,List.cons.injEq,Prod.mk.injEq] at hz;obtain⟨⟨rfl,rfl⟩,rfl⟩:=hz;have ap:N.depth<=n/\Ky.C2 O<=n:=(by simp only[Ky.C2] at aj;omega);refine mZ (aa (A:=A.in1) ap.1 aQa al an ?_);by_cases hk:N=T
       .subst hk;rw[mU rfl];simp only[Bool.not_true,Bool.false_eq_true,if_false];refine Asg (29,O,U,ak,Y,2,ap.2,am,ao,5,by simpa using hlen);rw[<-M];apply At0.mpr;exact(λq=>by rw[q],158)
       rw[mS hk];simp;have hf:decide (l=m)=false:=by rw[<-M];exact mS (λq=>hk (by injection q))
       rw[hf] at hq;exact sU (oA Asg (0,aQc,Atm hq))
    rintro⟨aq,ar⟩ C ⟨J,rfl,D,G,H,I,hz,aj,hx',L,M,hlen⟩;simp only at J;subst J;refine cO;have as:aKa=decide (l=m):=by
     rw[<-M,<-hlen]
     cases D with
     |nil=>
      have e:=hx';subst e
      cases G with
      |nil=>
       have e:=L;subst e;simp
      |cons T U=>
       obtain⟨v',Y,rfl,an,ao⟩:=L;rw[aAk];rfl
     |cons N O=>
      obtain⟨u',ak,rfl,al,am⟩:=hx'
      cases G with
      |nil=>
       have e:=L;subst e;rw[aAk];rfl
      |cons T U=>
       obtain⟨v',Y,rfl,an,ao⟩:=L;simp at hz
    exact(.bool aKa,2,aQc,Atm (oD as hq))
where
 Yg {A:Around} {E:bK} {s:Shared} {i:Int} {y:Ky} {u v:Value} {Q:aF8} (hu:A.units<cLine) (hx:tQ EW (.num i) u) (hy:mCZ y) (hq:Q (decide (Ky.num i=y)) s):
  wpAny bC A aJ9 Q E s:=by
  cases y with
  |num j=>
   rw[Ahf] at hq;rcases hx with⟨t,rfl⟩|⟨b,rfl,rfl⟩
   .rcases hy with⟨t',rfl⟩|⟨c,rfl,rfl⟩
    .exact mBs SeqAt.EqAt.int_int j t'
    exact SeqAt.EqAt.int_bool i t c _ _ _ _ hq
   rcases hy with⟨t',rfl⟩|⟨c,rfl,rfl⟩
   .exact SeqAt.EqAt.bool_int b j t' _ _ _ _ hq
   refine SeqAt.EqAt.bool_bool b c _ _ _ _ ?_;have e:((if b then(1:Int) else 0)==(mAi c))=(b==c):=(by cases b<;>cases c<;>rfl);rw[e] at hq;exact hq
  |Ce z=>
   rw[aAk] at hq;obtain⟨t',rfl⟩:=hy;rcases hx with⟨t,rfl⟩|⟨b,rfl,rfl⟩
   .exact mBs AvN z t'
   exact SeqAt.EqAt.bool_str b z t' _ _ _ _ hq
  |Al m=>
   rw[aAk] at hq;obtain⟨b',ob,ys,nb,rfl,hob,hcb,hdb,hib⟩:=hy;have hTb:s.heap.IsTuple b' ys:=aQd;rcases hx with⟨t,rfl⟩|⟨b,rfl,rfl⟩
   .exact mBs SeqAt.EqAt.int_tuple hTb hu
   exact SeqAt.EqAt.bool_tuple b hTb hu _ _ _ _ hq
 Yh {A:Around} {E:bK} {s:Shared} {i:Str} {y:Ky} {u v:Value} {Q:aF8} (hu:A.units<cLine) (hx:tQ EW (.Ce i) u) (hy:mCZ y) (hq:Q (decide (Ky.Ce i=y)) s):
  wpAny bC A aJ9 Q E s:=by
  obtain⟨t,rfl⟩:=hx
  cases y with
  |num j=>
   rw[aAk] at hq;rcases hy with⟨t',rfl⟩|⟨c,rfl,rfl⟩
   .exact mBs AvO j t'
   exact SeqAt.EqAt.str_bool i t c _ _ _ _ hq
  |Ce z=>
   rw[Ahg] at hq;obtain⟨t',rfl⟩:=hy;exact mBs SeqAt.EqAt.str_str z t'
  |Al m=>
   rw[aAk] at hq;obtain⟨b',ob,ys,nb,rfl,hob,hcb,hdb,hib⟩:=hy;have hTb:s.heap.IsTuple b' ys:=aQd;exact mBs SeqAt.EqAt.str_tuple hTb hu
theorem Ahi:∀(n m:Nat){A:Around}{E:bK}{s:Shared}{k:Ky}{v:Value}{Q:aF8},k.depth<=n->n<=m->mCZ k->Q true s->wpAny bC A (eqIsQuiet m v) Q E s:=by
 intro n
 induction n with
 |zero=>
  intro m A E s k v Q hd hm hk hq
  cases k with
  |num i=>
   rcases hk with⟨t,rfl⟩|⟨b,rfl,rfl⟩
   .rw[aCl];exact aAj
   rw[aCl];exact aAj
  |Ce x=>
   obtain⟨t,rfl⟩:=hk;rw[aCl];exact aAj
  |Al l=>simp[Ky.depth] at hd
 |succ n c=>
  intro m A E s k v Q hd hm hk hq
  cases k with
  |num i=>
   rcases hk with⟨t,rfl⟩|⟨b,rfl,rfl⟩
   .rw[aCl];exact aAj
   rw[aCl];exact aAj
  |Ce x=>
   obtain⟨t,rfl⟩:=hk;rw[aCl];exact aAj
  |Al l=>
   obtain⟨a,o,items,d,rfl,f,hc,g,j⟩:=hk;have p:s.TypeIs aI "tuple":=(mO o f hc);obtain⟨q,rfl⟩:∃q,m=q+1:=(m - 1,4);unfold eqIsQuiet;refine pO Au1 p F.slot_tuple_eq.lookup;refine mLM p;simp;refine pO AtV f g;refine cG;rw[<-Array.forIn_toList];refine wpAny_forIn_list _ (λrest r u=>r.1=none/\u=s/\∃left,Ky.C2 left<=n/\Ht s.heap left rest) _ ?_ ?_ _ _ (29,l,aBa,j)
   .rintro v rest r u ⟨y,rfl,left,z,B⟩
    cases left with
    |nil=>cases (show v::rest=[] from B)
    |cons k C=>
     obtain⟨v',D,e,G,H⟩:=B
     cases e
     have I:mBr C:=(by simp only[Ky.C2] at z;omega);refine mZ (c q I.1 aA G ?_);simp;exact Asg (29,C,I.2,H)
   rintro⟨J,L⟩ u ⟨y,rfl,_⟩;simp only at y;subst y;exact aAj
theorem Ahj(b:∀a o items n,oT a=aH ->o.cls= hB ->o.data= mAh items->qG a=aH):∀(n:Nat)(k:Ky)(v:Value),k.depth<=n->EW h k v->EW h' k v:=by
 intro n
 induction n with
 |zero=>
  intro k v hd hk
  cases k with
  |num i=>exact hk
  |Ce x=>exact hk
  |Al l=>simp[Ky.depth] at hd
 |succ n c=>
  intro k v hd hk
  cases k with
  |num i=>exact hk
  |Ce x=>exact hk
  |Al l=>
   obtain⟨a,o,items,m,rfl,d,f,g,h4⟩:=hk;refine(a,o,items,m,2,b a o items m d f g,f,g,5);have all:∀(l:iU)(vs:aT),aDY <=n->Ht h l vs->Ht h' l vs:=by
    intro l
    induction l with
    |nil=>intro vs _ e;exact e
    |cons k j p=>
     intro vs hd2 e;obtain⟨v,r,rfl,q,u⟩:=e;have y:mBr j:=aF7;exact(v,r,2,c k v y.1 q,p r y.2 u)
   exact all l _ aBa h4
noncomputable def HZ(prog:Program)(w:World):HeapKind prog w Ky where
 is:=λh k a=>EW h k aI /\k.depth<=8
 hash:=Ky.hash w
 draws:=Ky.draws
 room:=λA=>A.units+8<cLine
 inj:=λhx hy=>Ye 8 _ _ _ hx.2 hx.1 hy.1
 keeps:=λx b hd hs=>(Ahj (λa o items n ha _ c=>(hs.2 a (by
  rintro rfl;rw[ha] at b
  cases b
  rw[c] at hd
  cases hd)).trans ha) 8 _ _ x.2 x.1,x.2)
 pyHash:=λhu hk hq=>Ahe 8 hk.2 hu hk.1 hq
 eqBool:=λhu hx hy hq=>Ahh 8 hx.2 hu hx.1 hy.1 hq
 quiet:=λhk hq=>Ahi 8 8 hk.2 aF hk.1 hq
end
end L2
namespace L2
open PySem PySem.Spec PyProof.Rows
abbrev C3:=Sum Int Str
def JU:C3->Value->Bool
 | .inl k,v=>Value.isInt k v
 | .inr x,v=>Value.isStrOf x v
def Ahk(w:World):C3->Int
 | .inl k=>hashInt k
 | .inr x=>hashStr w x
theorem H_:∀{k:C3}{v:Value},JU k v=true->(∃i t,k=mBt i/\v=mHV i)\/(∃x t,k=Sum.inr x/\v=Value.str x t)
 | .inl i,v,h=>by
   obtain⟨t,e⟩:=Value.isInt_shape (k:=i) (v:=v) h;exact mH (i,t,2,e)
 | .inr x,v,h=>by
   obtain⟨t,e⟩:=Value.isStrOf_shape (x:=x) (v:=v) h;exact mI (x,t,2,e)
theorem Ahl(i:Int)(t:Tok):JU (mH i) aDZ=true:=by simp[JU,Value.isInt]
theorem Ahm(x:Str)(t:Tok):mLN JU:=by simp[JU,Value.isStrOf]
theorem Ahn(a b:Int):decide ((Sum.inl a:C3)=mBt b)=(a==b):=by
 by_cases e:a=b
 .subst e;simp
 have h:mLO Sum.inl:=λq=>e aQe;rw[mS h];exact(vC e).symm
theorem Aho(a b:Str):decide ((Sum.inr a:C3)=Sum.inr b)=decide (a=b):=by
 by_cases e:a=b
 .subst e;simp
 have h:mLO Sum.inr:=λq=>e (Sum.inr.inj q);rw[mS h,mS e]
theorem Ahp(a:Int)(b:Str):decide ((Sum.inl a:C3)=Sum.inr b)=false:=aQf
theorem Ahq(a:Str)(b:Int):decide ((Sum.inr a:C3)=mBt b)=false:=aQf
def GR(prog:Program)(w:World):PySem.KeyKind prog w C3 where
 is:=JU
 hash:=Ahk w
 inj:=λv a b ha hb=>by
  rcases H_ ha with⟨i,t,rfl,rfl⟩|⟨x,t,rfl,rfl⟩
  .rcases H_ hb with⟨j,u,rfl,e⟩|⟨y,u,rfl,e⟩
   .injection e with n _;rw[n]
   exact nomatch e
  rcases H_ hb with⟨j,u,rfl,e⟩|⟨y,u,rfl,e⟩
  .exact nomatch e
  injection e with n _;rw[n]
 byValue:=λk v h=>by rcases H_ h with⟨i,t,rfl,rfl⟩|⟨x,t,rfl,rfl⟩<;>rfl
 pyHash:=λq h=>by
  rcases H_ q with⟨i,t,rfl,rfl⟩|⟨x,t,rfl,rfl⟩
  .exact mHU h
  exact wpAny_pyHash_str h
 eqBool:=λhu q h=>by
  rcases H_ hu with⟨i,t,rfl,rfl⟩|⟨x,t,rfl,rfl⟩
  .rcases H_ q with⟨j,u,rfl,rfl⟩|⟨y,u,rfl,rfl⟩
   .rw[Ahn] at h;exact wpAny_eqBool_int h
   rw[Ahp] at h;exact AvN i t y u _ _ _ _ h
  rcases H_ q with⟨j,u,rfl,rfl⟩|⟨y,u,rfl,rfl⟩
  .rw[Ahq] at h;exact AvO x t j u _ _ _ _ h
  rw[Aho] at h;exact wpAny_eqBool_str h
 «strs»:=λk x t v h=>by
  rcases H_ h with⟨i,u,rfl,e⟩|⟨y,u,rfl,e⟩
  .exact nomatch e
  injection e with n _
  subst n
  cases v<;>rfl
theorem Ahr(prog:Program)(w:World)(i:Int)(t:Tok):(GR prog w).is (mH i) aDZ=true:=Ahl i t
theorem Ahs(prog:Program)(w:World)(x:Str)(t:Tok):mLN (GR prog w).is:=Ahm x t
end L2
namespace L2
open PySem PySem.Spec PyProof.Rows
inductive V where
 |Ax|bl (b:Bool)|int (i:Int)|str (x:Str)|FG (b:Array UInt8)|Q9 (b:UInt64)|ref (a:Addr)|ty (n:String)
 deriving DecidableEq
def AJ:V->Value->Prop
 | .Ax,u=>u=Value.none
 | .bl b,u=>u=aJ8
 | .int i,u=>∃t,u=mHV i
 | .str x,u=>∃t,u=Value.str x t
 | .FG b,u=>∃t,u=Value.bytes b t
 | .Q9 b,u=>∃t,u=Value.float b t
 | .ref a,u=>u=rE a
 | .ty n,u=>u=Value.type n
abbrev AB:aK -> aT ->Prop:=Paired AJ
theorem AB.length(r:fG):xs.length=us.length:=xD r
theorem AB.get:∀{xs:aK}{us:aT}{i:Nat}{x:V},fG ->xs[i]? =aY ->∃u,us[i]? =aM /\sV x
 |_,_,_,_,.nil,e=>by simp at e
 |_,_,0,_,.cons r _,e=>by simp at e;subst e;exact(mEX r)
 |_,_,i+1,x,.cons _ t,e=>by
  obtain⟨u,h1,h2⟩:=AB.get (i:=i) (x:=x) t hS;exact(u,by simpa using h1,h2)
theorem AB.set(r:sV x):∀{xs:aK}{us:aT}(i:Nat),fG ->AB (xs.set i x) (us.set i u)
 |_,_,_,.nil=> .nil
 |_,_,0,.cons _ t=> rR r t
 |_,_,i+1,.cons q t=> rR q (AB.set r i t)
theorem AB.append:∀{xs ys:aK}{us ws:aT},fG ->AB ys ws->AB (xs++ys) (us++ws)
 |_,_,_,_,.nil,s=>s
 |_,_,_,_,.cons r t,s=> rR r (AB.append t s)
theorem AB.take:∀{xs:aK}{us:aT}(n:Nat),fG ->AB (xs.take n) (us.take n)
 |_,_,0,_=> .nil
 |_,_,_+1,.nil=> .nil
 |_,_,n+1,.cons r t=> rR r (AB.take n t)
theorem AB.drop:∀{xs:aK}{us:aT}(n:Nat),fG ->AB aBb (us.drop n)
 |_,_,0,r=>r
 |_,_,_+1,.nil=> .nil
 |_,_,n+1,.cons _ t=>AB.drop n t
theorem AB.BL:∀{xs:aK}{us:aT}{i:Nat},fG ->xs[i]? =none->us[i]? =none:=λ{xs us i}r e=>by have h1:=r.length;have h2:=iV;exact AsM.mpr aA
def EJ:bO -> aCm ->Prop
 |some v,some u=>fH
 |none,none=>True
 |_,_=>False
def KV{κ:Type}:fI -> aKb ->Prop:=Paired λ(p:κ×V)(q:κ×Value)=>p.1=q.1/\AJ p.2 q.2
def kV:C3->V
 | .inl i=> eZ
 | .inr x=> cX
inductive HO where
 |Ac (xs:aK)
 |Al (xs:aK)
 |dK (kvs:hT)|dT (kvs:bH)
 |set (S:Int->Bool) (n:Nat)
 |Ag (C dx:Addr) (fs:dO)
 |own (x:Addr)
 |xd (fs:dO)
 |Am (f x:Addr)
 |TU (lo hi:Int)
 |Bw (o:Obj) (u:HO)
 |Lb (ps:jX)
 |ext (φ:Heap->Prop)
abbrev Hp:=Addr->oG HO
def Aa(H:Hp)(a:Addr)(o:HO):Hp:=λb=>if b=a then aH else H b
theorem Af:Aa H a o a=some o:=by unfold Aa;rw[bE]
theorem Ah(h:b≠a):Aa H a o b=H b:=by unfold Aa;rw[gM]
theorem B1:Aa aD1 a u=Aa H a u:=by funext b;unfold Aa;split<;>rfl
theorem Lc{H:Hp}(h:H a=aH)(h':H b=aM)(d:o≠u):a≠b:=by intro e;subst e;rw[h] at h';exact d (Ase h')
theorem AR{H:Hp}(h:H a=aH)(h':pP b):a≠b:=by intro e;subst e;rw[h] at h';cases h'
mutual
def JV(H:Hp):Ky->V->Prop
 | .num i,v=>v= eZ \/∃b,v= .bl b/\i=if b then 1 else 0
 | .Ce x,v=>v= cX
 | .Al l,v=>∃a vs,v= aI /\H a=oI vs/\Ld H l vs
def Ld(H:Hp):iU -> aK ->Prop
 |[],vs=>vs=[]
 |k::ks,vs=>∃v r,vs=v::r/\JV H k v/\Ld H ks r
end
def Dv(H:Hp)(k:Ky)(a:Addr):Prop:=JV H k aI /\k.depth<=8
theorem JV.keeps(j:aCn):∀(n:Nat)(k:Ky)(v:V),k.depth<=n->JV H k v->JV H' k v:=by
 intro n
 induction n with
 |zero=>
  intro k v hd hk
  cases k with
  |num i=>exact hk
  |Ce x=>exact hk
  |Al l=>simp[Ky.depth] at hd
 |succ n q=>
  intro k v hd hk
  cases k with
  |num i=>exact hk
  |Ce x=>exact hk
  |Al l=>
   obtain⟨a,vs,rfl,h1,h2⟩:=hk;refine(a,vs,2,j a vs h1,5);have all:∀(l:iU)(vs:aK),aDY <=n->Ld H l vs->Ld H' l vs:=by
    intro l
    induction l with
    |nil=>intro vs _ e;exact e
    |cons k ks z=>
     intro vs hd2 e;obtain⟨v,r,rfl,B,p2⟩:=e;have I:mBr ks:=aF7;exact(v,r,2,q k v I.1 B,z r I.2 p2)
   exact all l _ aBa h2
theorem Dv.keeps(h:mAk a)(j:aCn):Dv H' k a:=(JV.keeps j 8 k _ h.2 h.1,h.2)
section
variable (P:Program) (w:World)
def C9(H:Hp)(h:Heap)(a:Addr):HO->Prop
 | .Ac xs=>xs.length<=sizeLine/\∃(its:aT)(n:Nat),aD2 /\oT a=some {cls:= fJ,data:= aBc}
 | .Al xs=>xs.length<=sizeLine/\∃its:aT,aD2 /\IsTup h a its.toArray
 | .dK kvs=>kvs.length<=sizeLine/\ aBd=false/\∃vs,hU /\h.DictOf (GR P w) a vs
 | .dT kvs=>kvs.length<=sizeLine/\ aBd=false/\∃xs:aF9,
  Paired (λ(p:Ky×V)(q:Ky×Addr×Value)=>p.1=q.1/\Dv H p.1 q.2.1/\AJ p.2 q.2.2) kvs xs/\
  ∃o es ep,oT a=aH /\o.ExactDict/\o.data= aAl /\es.toList=xs.map (entryOfKey aCo)/\(yO xs.map).Nodup
 | .set S n=>h.SetOf (intKind P w) a S n
 | .Ag C dx fs=>H dx=mBu a/\fs.length<=1000/\dx≠a/\oT a=mB aKc /\
  ∃mA,h.Ns1 dx mA/\(∀f,aKd)/\ aQg
 | .own _=>∃o,oT a=aH
 | .xd fs=>∃mA,h.Ns1 a mA/\∀f,aKd
 | .TU lo hi=>∃t u v,oT a=some {cls:= aKe,data:= mEY u}
 | .Bw o u=>oT a=aH /\C9 H h a u
 | .Lb ps=>oT a=some {cls:= .none,data:= mAl ps}
 | .Am f x=>oT a=mB (PySem.W.methodObj iW cS)
 | .ext j=>j h/\(∃o,oT a=aH)/\∀h1 h2:Heap,j h1->(∀o,h1.get? a=aH ->h2.get? a=aH)->j h2
def Cm(H:Hp)(h:Heap):Prop:=∀a o,H a=aH ->mAm o
end
section
variable {P:Program} {w:World} {H H':Hp} {h h':Heap} {a:Addr} {o:HO}
theorem C9.lt(x:mAm o):mEZ a:=by
 cases o with
 |Ac xs=>obtain⟨_,_,_,_,e⟩:=x;exact fK
 |Al xs=>obtain⟨_,_,_,p⟩:=x;exact p.lt
 |dK kvs=>obtain⟨_,_,_,_,o,_,_,e,_⟩:=x;exact fK
 |dT kvs=>obtain⟨_,_,_,_,o,_,_,e,_⟩:=x;exact fK
 |set S n=>obtain⟨o,_,_,_,e,_⟩:=x;exact fK
 |Ag C dx fs=>obtain⟨_,_,_,e,_⟩:=x;exact fK
 |own y=>obtain⟨_,e⟩:=x;exact fK
 |xd fs=>obtain⟨_,⟨_,_,_,e,_⟩,_⟩:=x;exact fK
 |TU lo hi=>obtain⟨_,_,_,e⟩:=x;exact fK
 |Bw j u=>obtain⟨e,_⟩:=x;exact fK
 |Lb ps=>exact mLP a x
 |Am f y=>exact mLP a x
 |ext q=>obtain⟨_,⟨_,e⟩,_⟩:=x;exact fK
theorem Paired.TV:∀{j:cL}{q:mY β},Paired F j q->(∀a b,F a b->G a b)->Paired G j q
 |_,_,.nil,_=> .nil
 |_,_,.cons r t,f=> rR (mC f r) (Paired.TV t f)
theorem C9.Ia(x:mAm o)(k:∀b u,(b=a\/H b=mBu a)-> hC=aM ->qG b=aM)
 (j:∀b,H b=mBu a-> eN=mBu a) (B:aCn):C9 P w H' h' a o:=by
 induction o with
 |Ac xs=>obtain⟨z,its,n,r,e⟩:=x;exact(z,its,n,r,iX)
 |Al xs=>obtain⟨z,its,r,I,e,c⟩:=x;exact(z,its,r,I,iX,c)
 |dK kvs=>obtain⟨z,y,vs,r,I,es,ep,e,c⟩:=x;exact(z,y,vs,r,I,68,iX,c)
 |dT kvs=>
  obtain⟨z,y,xs,r,I,es,ep,e,c⟩:=x;exact(z,y,xs,Paired.TV r λp q z=>(mLQ B),I,68,iX,c)
 |set S n=>obtain⟨I,es,ep,t,e,c⟩:=x;exact(I,68,t,iX,c)
 |Ag C dx fs=>
  obtain⟨d,z,ne,e,mA,⟨od,es,ep,J,c⟩,r⟩:=x;exact(j _ d,z,ne,iX,mA,(od,68,mV k (mI d) J,c),r)
 |own y=>obtain⟨I,e⟩:=x;exact(I,iX)
 |xd fs=>obtain⟨mA,⟨od,es,ep,e,c⟩,r⟩:=x;exact(mA,(od,68,iX,c),r)
 |TU lo hi=>obtain⟨t,u,v,e⟩:=x;exact(t,u,v,iX)
 |Bw I u L=>obtain⟨e,q⟩:=x;exact(iX,L q)
 |Lb ps=>
  have e:=x;exact k a _ aZ e
 |Am f y=>
  have e:=x;exact k a _ aZ e
 |ext M=>obtain⟨p,⟨o,e⟩,st⟩:=x;exact(st _ _ p λo q=>mV k aZ q,(o,iX),st)
theorem Cm.lt(x:gC)(e:H a=aH):mEZ a:=(x a o e).lt
theorem Cm.BC(x:gC)(e:mHW a):nA H a:=by
 cases q:H a with
 |none=>rfl
 |some u=>exact mBv (x.lt q) e
theorem Cm.CF(x:gC)(k:mBw oT):Cm P w H h':=λa o e=>
 (x a o e).Ia (λb u _ q=>k b u q) aGa λ_ _ q=>q
theorem Cm.DV(x:gC)(k:mBw oT)(hp:mHW a)(new:C9 P w aD1 h' a o):Cm P w aD1 h':=λb u e=>by
 have j:=x.BC hp;by_cases hb:b=a
 .subst hb;rw[Af] at e;cases e;exact new
 rw[hD] at e;exact(x b u e).Ia (λc v _ q=>k c v q) (λc q=>by rw[mAn j];exact q) λc xs q=>(mC0 mAn j q)
end
def Rd(H:Hp)(a:Addr)(u:HO):Prop:=H a=aM \/∃o,H a=sW o u
theorem Rd.of(h:H a=aM):Rd H a u:= jY
theorem Rd.ok(r:tR u)(x:gC):C9 P w H h a u:=by
 rcases r with r|⟨o,r⟩
 .exact x a u r
 obtain⟨_,q⟩:=x a _ r;exact q
def JW:oG HO->Prop
 |some (.Ac _)=>True
 |some (.dK _)=>True
 |some (.dT _)=>True
 |some (.set _ _)=>True
 |some (.Ag _ _ _)=>True
 |some (.ext _)=>True
 |_=>False
section
variable {P:Program} {w:World} {H:Hp} {h h':Heap} {x e:Addr} {o':HO}
theorem Cm.Ib(ok:gC)(j:JW (H x))(he:aKf)(k:mHX oT)(B:aKg)
 (new:C9 P w (nX x o') h' x o'):Cm P w (nX x o') h':=λb u q=>by
 have I:∀c y,H c=mBu y->c≠x:=λc y r z=>(mLR r);by_cases hb:b=x
 .subst hb;rw[Af] at q;cases q;exact new
 rw[hD] at q;by_cases J:b=e
 .have L:oB H b (.own x):=by
   rcases he with z|z
   .exact nL (J.trans z) hb
   rw[J];exact z
  rw[q] at L;cases L;obtain⟨v,M⟩:=B;exact(v,by rw[J];exact M)
 refine(ok b u q).Ia (λc v hc r=>k c v ?_ r) (λc r=>by rw[Ah (I c b r)];exact r) λc xs r=>(by rw[Ah ((λc xs r z=>by subst z;rw[r] at j;exact j) c xs r)];exact r);rcases hc with rfl|hc
 .exact J
 rintro rfl;rcases he with z|z
 .exact I c b hc z
 rw[hc] at z;cases z;exact hb rfl
end
structure Un(fs ex:aP)(H H':Hp)(h h':Heap):Prop where
 keep:∀b o,hC=aH ->H b=none->b∉fs->b∉ex->qG b=some o
 slot:∀b o,hC=aH ->H b=none->b∈fs->b∉ex->∃sl,qG b=some {o with slots:=sl}
 free:∀b o,hC=aH ->H b=none->b∉ex-> eN=none
 there:∀b o,hC=aH ->b∉ex->∃o',qG b=some o'
 Gk:∀b xs,H b=fL -> eN=some iY
 F1:∀b o u,H b=sW o u-> eN=some (.Bw o u)
 Gm:∀b ps,H b=mB (.Lb ps)->∃more,eN=aQh
section
variable {fs fs' ex ex':aP} {H H1 H2:Hp} {h h1 h2 h':Heap} {a x e:Addr} {o:HO}
theorem Un.any(u:mHY H)(q:hC=mB j)(n:pP b)(hx:b∉ex):∃sl,h1.get? b=some {j with slots:=sl}:=by
 by_cases hb:b∈fs
 .exact u.slot b j q n hb hx
 exact(j.slots,u.keep b j q n hb hx)
theorem Un.trans(a:mHY H)(b:Un fs ex H1 H2 h1 h2):Un fs ex H H2 h h2 where
 keep:=λc j q n hc hx=>b.keep c j (a.keep c j q n hc hx) aKh hc hx
 slot:=λc j q n hc hx=>by obtain⟨sl,z⟩:=a.slot c j q n hc hx;obtain⟨B,I⟩:=b.slot c _ z aKh hc hx;exact(B,I)
 free:=λc j q n hx=>by obtain⟨o',z⟩:=aQi;exact b.free c o' z aKh hx
 there:=λc j q hx=>by obtain⟨o',z⟩:=aQi;exact b.there c o' z hx
 Gk:=λc xs q=>b.Gk c xs (a.Gk c xs q)
 F1:=λc j xs q=>b.F1 c j xs (a.F1 c j xs q)
 Gm:=λc ps q=>by obtain⟨J,z⟩:=a.Gm c ps q;obtain⟨L,I⟩:=b.Gm c _ z;exact(mLS J L I)
theorem Un.CF(k:mBw oT):Un fs ex H H h h':=
 (λb j q _ _ _=>k b j q,λb j q _ _ _=>(j.slots,k b j q),λ_ _ _ n _=>n,λb j q _=>(j,k b j q),λ_ _ q=>q,λ_ _ _ q=>q,λ_ ps q=>(#[],by rw[q];simp))
theorem Un.refl:Un fs ex H H h h:=Un.CF λ_ _ q=>q
theorem Un.DV(k:mBw oT)(hp:mHW a)(j:pP a):Un fs ex H aD1 h h' where
 keep:=λb u q _ _ _=>k b u q
 slot:=λb u q _ _ _=>(u.slots,k b u q)
 free:=λb u q n _=>by rw[Ah (mC1 q hp)];exact n
 there:=λb u q _=>(u,k b u q)
 Gk:=λb xs q=>by rw[mAn j];exact q
 F1:=λb u xs q=>by rw[mAn j];exact q
 Gm:=λb ps q=>(#[],by rw[mAn j,q];simp)
theorem Un.Ib(j:JW (H x))(he:aKf)(k:mHX oT)(B:aKg):Un fs ex H (nX x o) h h':=by
 have hx:mE0 x:=λb n z=>(mLR n);have hb:mE0 e:=λb n z=>by
  subst z;rcases he with r|r
  .exact hx b n r
  rw[n] at r;cases r
 have hm:∀b u,H b=aM ->¬JW aM ->b≠x:=λb u q nm z=>(by subst z;rw[q] at j;exact nm j);refine(λb u q n _ _=>aQj,λb u q n _ _=>(u.slots,aQj),λb u q n _=>by rw[Ah (hx b n)];exact n,λb u q _=>?_,λb xs q=>by rw[mHZ b];exact q,λb u xs q=>by rw[mHZ b];exact q,λb ps q=>(#[],by rw[mHZ b,q];simp))
 by_cases I:b=e
 .subst I;exact B
 exact(u,k b u I q)
theorem Un.As(u:mHY H)(hs:∀b∈fs,b∈fs')(hx:∀b∈ex,b∈ex'):Un fs' ex' H H1 h h1:=
 (λb j q n hb he=>u.keep b j q n (λz=>hb (hs b z)) λz=>aKi,λ_ _ q n _ he=>u.any q n λz=>he (hx _ z),λb j q n he=>u.free b j q n λz=>aKi,λb j q he=>u.there b j q λz=>aKi,u.Gk,u.F1,u.Gm)
end
def TW(h:Heap)(H:Hp):List Addr:=(mBx oP).filter λa=>(H a).isSome
def Jg(h:Heap)(H:Hp):Heap:=PySem.W.hideAll h (TW h H)
theorem Aht(h:Heap)(H:Hp):aGb.objs.size=h.objs.size:=PySem.W.hideAll_size _ _
theorem Ahu(e:hC=aH)(n:pP b):oB aGb.get? b o:=
 PySem.W.hideAll_get _ e λhm=>by have q:=(AtO.mp hm).2;rw[n] at q;simp at q
theorem Ahv(e:aGb.get? b=aH):hC=aH /\H b=none:=by
 have e':oB oT b o:=PySem.W.of_hideAll (TW h H) e;refine(oH e')
 cases q:H b with
 |none=>rfl
 |some x=>
  have z:nA aGb.get? b:=PySem.W.hideAll_none (TW h H) (AtO.mpr (mCS (Asu e'),by simp[q]));rw[z] at e;cases e
end L2
namespace L2
open PySem PySem.Spec PyProof.Rows
structure Mod(K:PySem.W.Frag)(mg:aN)(base:Heap):Prop where
 O5:K.In base
 Jh:base.Ns mainGlobals mg
 Ji:∃mb,base.Ns builtinsNs mb/\∀x:Str,x≠"__name__"->mb x=bootBuiltins x
 nolimit:base.NoLimit
structure Cx where
 prog:Program
 w:World
 K:PySem.W.Frag
 mg:Str->Option Value
 base:Heap
 A:Around
 N:List Str
 EK:Shared
 Le:Hp
 env:Env
 outer:List Env
 stack:List Env
 ex:List Addr
 fn:Str->Bool
 calm:Bool
 pn:List aQk
 xe:Value->Shared->Prop
def Hu(l:jZ):List Addr:=l.filterMap (·.frame)
abbrev Cx.fs(X:Cx):List Addr:=Hu X.outer
def TX(sc:Scope)(x:Str):Prop:=uL x=lB \/uL x=aBe \/uL x=aGc
def O6(sc:Scope)(x:Str):Prop:=uL x=lB \/uL x=aBe
def Ahw(env:Env)(h:Heap)(m:aN)(x:Str)(u:Value):Prop:=
 (env.kindOf x=lB /\m x=aM)\/((mH0 env.kindOf x)/\∃c,mE1 x=bT /\h.IsCell c aM)
structure Cx.Ok(X:Cx):Prop where
 mod:Mod X.K X.mg X.base
 kind:X.env.scope.kind= .function
 Jh:X.env.globals=mainGlobals
 Ji:X.env.builtins=builtinsNs
 above:X.EK.heap.objs.size<=X.env.locals
 inj:∀x y c,sF x=bT ->sF y=bT ->x=y
 Lf:∀x,(mH0 X.env.kindOf x)->∃c,sF x=some c
 O7:∀x c,X.fn x=true->sF x=bT ->X.EK.heap.objs.size<=c
 hd:X.calm=true->X.A.handled=none
 frames:X.A.frames=some X.stack
 Di:X.stack=X.outer\/(X.stack=X.env::X.outer/\X.env.frame=mB X.env.locals)
 QA:∀b∈X.ex,b≠X.env.locals/\∀x c,sF x=bT ->c≠b
 bs:∀b o,mC2 b=aH ->mH1 b=aH /\X.Le b=none
 Jj:X.base.objs.size<=X.EK.heap.objs.size
 O8:∀b o,mC2 b=aH ->b∉X.ex
 O9:∀b∈X.ex,b∉X.fs
 GS:X.EK.heap.FunFrames X.base X.outer
 Lg:∀b∈X.fs,X.Le b=none
structure Inv(X:Cx)(pins:bA)(σ:mY bO)(H:Hp)(s:Shared):Prop where
 ok:X.Ok
 os:s.os=X.EK.os
 DM:AllBare s.gens
 base:Un X.fs X.ex X.Le H X.EK.heap s.heap
 EX:∃m,aQl /\∀(i:Nat)(x:Str)(v:V),X.N[i]? =aY ->σ[i]? =aD3 ->mAo TX->∃u,fH /\Ahw X.env s.heap m x u
 cell:∀x c,sF x=bT ->∃v,s.heap.IsCell c v
 free:H X.env.locals=none
 Gn:∀x c,sF x=bT ->H c=none
 FH:∀p∈X.pn++pins,nU p.1=mB p.2/\H p.1=none/\p.1≠X.env.locals/\p.1∉X.fs/\∀v,p.2.data≠ .cell v
 Av:Cm X.prog X.w H s.heap
 len:σ.length=X.N.length
section
variable {X:Cx} {pins:bA} {σ:mY bO} {H H':Hp} {s:Shared} {h':Heap}
theorem Cx.Ok.Ahx(ok:X.Ok)(e:mC2 b=aH):b∉X.fs:=λhb=>by have:=(ok.GS.mem hb).1;rw[e] at this;cases this
theorem Inv.bs(j:aE):∀b o,mC2 b=aH ->nU b=aH /\H b=none:=λb o e=>
 (j.base.keep b o (aGd).1 (aGd).2 (j.ok.Ahx e) (pQ j.ok.O8),j.base.free b o (aGd).1 (aGd).2 (pQ j.ok.O8))
theorem Inv.bk(j:aE):∀b o,mC2 b=aH ->nU b=some o:=λb o e=>(pQ j.bs).1
theorem Inv.mod(j:aE):Mod X.K X.mg X.base:=j.ok.mod
theorem Inv.E3(j:aE):X.K.In s.heap:=j.ok.mod.O5.keeps j.bk
theorem Inv.lt(j:aE):yP X.env.locals:=let(_,q,_):=j.EX;q.lt
theorem Inv.sz(j:aE):X.EK.heap.objs.size<=s.heap.objs.size:=AsV j.ok.above (Avv j.lt)
theorem Inv.Ahy(j:aE)(h:mE2 a):a∉X.fs:=λhb=>by obtain⟨_,o,q,_⟩:=j.ok.GS.mem hb;exact mBv (Asu q) (AsV j.sz h)
theorem Inv.Lh(j:aE):mH2 X.env.locals:=λx c e z=>by obtain⟨v,o,q,hd⟩:=aGe;obtain⟨m,⟨o',es,ep,B,I,_⟩,_⟩:=j.EX;rw[z,B] at q;cases q;rw[I] at hd;cases hd
theorem Inv.GS(j:aE):s.heap.FunFrames X.base X.outer:=by
 have all:∀(l:jZ),(∀b∈Hu l,b∈X.fs)->X.EK.heap.FunFrames X.base l->s.heap.FunFrames X.base l:=by
  intro l
  induction l with
  |nil=>intro _ _;trivial
  |cons env r q=>
   intro hs B;obtain⟨hk,⟨L,o,hf,I,J,hd⟩,M⟩:=B;have O:=hs L (by unfold Hu;rw[AvD,hf];exact AsG);obtain⟨sl,e⟩:=j.base.slot L o J (j.ok.Lg L O) O λz=>j.ok.O9 L z O;exact(hk,(L,_,hf,I,e,hd),q (mC3 hs (by unfold Hu;rw[AvD,hf];exact sE hb)) M)
 exact all X.outer (λ_ hb=>hb) j.ok.GS
theorem Inv.stack(j:aE):s.heap.FunFrames X.base X.stack:=by
 rcases j.ok.Di with e|⟨e,hf⟩
 .rw[e];exact j.GS
 rw[e];obtain⟨m,q,_⟩:=j.EX;refine .cons (by rw[j.ok.kind];decide) hf q ?_ j.GS;exact Heap.get?_none_of_le (mE3 j.ok.above)
theorem Inv.TY(j:aE):∀b∈ aGf,b∈X.env.locals::X.fs:=λb hb=>by
 rcases j.ok.Di with e|⟨e,hf⟩
 .rw[e] at hb;exact sE hb
 rw[e] at hb;unfold Hu at hb;rw[AvD,hf] at hb;exact hb
theorem Inv.Yi(j:aE):∀b∈ aGf,H b=none:=λb hb=>by
 rcases pN (nJ j.TY) with e|hb
 .rw[e];exact j.free
 obtain⟨_,o,q,_⟩:=j.ok.GS.mem hb;exact j.base.free b o q (nJ j.ok.Lg) λz=>j.ok.O9 b z hb
theorem Inv.step{ch:aP}(j:aE)
 (B:aKj)
 (keep:∀b o,b≠X.env.locals->b∉X.fs->b∉ch->nU b=aH ->H b=none->qG b=aH)
 (slot:∀b o,b≠X.env.locals->b∈X.fs->b∉ch->nU b=aH ->H b=none->∃sl,qG b=some {o with slots:=sl}) (free:∀b o,b∉ch->nU b=aH ->H b=none-> eN=none)
 (there:∀b o,b∉ch->nU b=aH ->∃o',qG b=mB o')
 (Gk:aCn) (F1:∀b o u,H b=sW o u-> eN=sW o u) (Gm:∀b ps,H b=mB (.Lb ps)->∃more,eN=aQh)
 (ns:∀m,aQl ->h'.Ns X.env.locals m) (Av:mE4 h') (hg:mC4 g'):
 Inv X pins σ H' {s with heap:=h',gens:=g',drawn:=d',toks:=t'}:=by
 have I:∀b o,mH1 b=aH ->b≠X.env.locals:=λb o e=>mC1 e j.ok.above;have J:∀b o,mH1 b=aH ->b∉X.ex->b∉ch:=λb o e hx hb=>by
  rcases(nJ B).1 with z|z
  .exact hx z
  exact mBv fK z
 have cellK:∀x c,sF x=bT ->∀v,s.heap.IsCell c v->h'.IsCell c v:=λx c e v (o,L,hd)=>by
  have M:c∉ch:=λz=>(B c z).2.2.1 x c e rfl;by_cases hc:c∈X.fs
  .obtain⟨sl,q⟩:=mLT slot;exact(_,q,hd)
  exact(o,mLT keep,hd)
 refine(j.ok,j.os,hg,(aQm,aQm,aQn,λb o e hx=>?_,λb xs e=>Gk b xs aQo,λb o xs e=>F1 b o xs (j.base.F1 b o xs e),λb ps e=>?_),5,aKk,5,aKk,hE,Av,j.len)
 .exact keep b o (pQ I) hb aGg (mC5 j.base.keep) aD4
 .obtain⟨sl,O⟩:=mC5 j.base.slot;obtain⟨aa,U⟩:=slot b _ (pQ I) hb aGg O aD4;exact(aa,U)
 .obtain⟨o',O⟩:=aQp;exact free b o' aGg O aD4
 .obtain⟨o',O⟩:=aQp;exact there b o' aGg O
 .obtain⟨ab,O⟩:=aQq;obtain⟨ac,U⟩:=Gm b _ O;exact(mLS ab ac U)
 .obtain⟨m,ae,af⟩:=j.EX;refine(m,ns m ae,λi x v O U e3=>?_);obtain⟨u,r,l⟩:=af i x v O U e3;refine(rF u r);rcases l with l|⟨k,c,e,z⟩
  .exact mH l
  exact mI (k,c,e,cellK x c e _ z)
 .obtain⟨v,z⟩:=aGe;exact(v,cellK x c e v z)
 .obtain⟨m,⟨o,_,_,L,_⟩,_⟩:=j.EX;exact free _ o (λz=>(B _ z).2.1 rfl) L j.free
 .obtain⟨v,o,L,hd⟩:=aGe;exact free c o (λz=>(B c z).2.2.1 x c e rfl) L aGh
 obtain⟨e,n,ne,Y,d⟩:=rC j.FH;have M:p.1∉ch:=λz=>(B p.1 z).2.2.2 p hp rfl;exact(keep p.1 p.2 ne Y M e n,free p.1 p.2 M e n,ne,Y,d)
theorem Inv.un(j:aE)(u:mE5 X.fs [] h')(Av:mE4 h'):mBy H':=by
 obtain⟨m,⟨o,es,ep,q,r⟩,_⟩:=id j.EX;obtain⟨sl,B⟩:=u.any q j.free aC;exact j.step (g':=s.gens) (d':=s.drawn) (ch:=[]) (λ_ z=>nomatch z) (mLU u.keep) (mLU u.slot) (λb o _ e n=>u.free b o e n aC) (λb o _ e=>u.there b o e aC) u.Gk u.F1 u.Gm (λI hm=>by obtain⟨o',J,L,M,O⟩:=hm;rw[q] at M;cases M;exact(_,J,L,B,O)) Av j.DM
theorem Inv.call(j:aE)(u:mE5 aGf ch h')(Av:mE4 h')(hg:mC4 g')
 (q:aKj):
 Inv X pins σ H' {s with heap:=h',gens:=g',drawn:=d',toks:=t'}:=by
 obtain⟨m,⟨o,es,ep,B,r⟩,_⟩:=id j.EX;obtain⟨sl,I⟩:=u.any B j.free λz=>(q _ z).2.1 rfl;exact j.step (ch:=ch) q (λb o I hb hc e n=>u.keep b o e n (λz=>(pN (j.TY b z)).elim I hb) hc) (λb o _ _ hc e n=>u.any e n hc) (λb o hc e n=>u.free b o e n hc) (λb o hc e=>u.there b o e hc) u.Gk u.F1 u.Gm (λJ hm=>by obtain⟨o',L,M,O,U⟩:=hm;rw[B] at O;cases O;exact(_,L,M,I,U)) Av hg
theorem Inv.DN(j:aE)(k:∀b o,b≠it->nU b=aH ->qG b=aH)(B:pP it)(I:it≠X.env.locals)
 (h1:mLV it) (h2:mH2 it) (J:∀p∈X.pn++pins,p.1≠it):mBy H:=by
 have L:∀b u,H b=aM ->b≠it:=λb u e z=>(mBz z B);refine j.step (g':=s.gens) (d':=s.drawn) (ch:=[it]) fM (mH3 aKl) (mH4 aKl) (λ_ _ _ _ n=>n)
  (λb o hc e=>(o,k b o aKl e)) aGi aQr aQs aKm aKn j.DM
 .have e:b=it:=cF;subst e;exact(h1,I,h2,J)
 .obtain⟨o,es,ep,M,r⟩:=hm;exact(o,68,k _ o (Asr I) M,r)
 refine aKo.Ia aKp aGa λ_ _ q=>q;rcases hc with z|z
 .rw[z];exact L b u e
 exact L c _ z
theorem Inv.BW(j:aE)(t:Nat):Inv X pins σ H {s with toks:=t}:=j.un (h':=s.heap) (t':=t) Un.refl j.Av
theorem Inv.CF(j:aE)(k:mBw nU):mBy H:=j.un (Un.CF k) (j.Av.CF k)
theorem Inv.DV(j:aE)(k:mBw nU)(hp:mE2 a)(new:mE6 a o):
 Inv X pins σ aD1 {s with heap:=h',toks:=t'}:=j.un (Un.DV k hp (j.Av.BC hp)) (j.Av.DV k hp new)
theorem Inv.Ib(j:aE)(q:JW (H x))(he:aKf)(k:mHX nU)(z:aKg)
 (new:mE6 x o):mBy (nX x o):=j.un (Un.Ib q he k z) (j.Av.Ib q he k z new)
theorem Inv.Ahz(j:aE)(q:z.length=σ.length)(w:∀(i:Nat)v,z[i]? =aD3 ->σ[i]? =aD3):Inv X pins z H s:=
 (j.ok,j.os,j.DM,j.base,let(m,B,I):=j.EX;(m,B,λi x v J L e3=>I i x v J (w i v L) e3),j.cell,j.free,j.Gn,j.FH,j.Av,q.trans j.len)
theorem Inv.Yj(j:aE)(h:∀p∈q,nU p.1=mB p.2/\H p.1=none/\p.1≠X.env.locals/\p.1∉X.fs/\∀v,p.2.data≠ .cell v):Inv X q σ H s:=
 (j.ok,37,λp hp=>(oS hp).elim (λz=>j.FH p (vD z)) (h p),j.Av,j.len)
theorem TZ{N:bZ}(n:N.Nodup){i j:Nat}(a:N[i]? =aY)(b:N[j]? =aY):i=j:=by obtain⟨h1,q⟩:=nS a;obtain⟨h2,z⟩:=nS b;exact(List.getElem_inj n).mp (q.trans z.symm)
theorem Yk(B:aE)(D:X.N.Nodup)(hi:aCp)(hx:mAo O6)(r:fH)
 (h:∀s',mBA aKq H->(∃a,Heap.SameBut a s.heap s'.heap/\(a=X.env.locals\/sF x=mB a))->Q () s') (hf:aD5:=by first|exact aZ|exact dZ|assumption):wpAny M A (mH5 x u) Q E s:=by
 obtain⟨m,G,aa⟩:=id B.EX;have ab:i<σ.length:=(mAp B.len (nS hi).1);have Lh:=B.Lh;have tracked:∀{a:Addr}{h':Heap},(∃o,nU a=aH /\H a=none)->yQ a->Cm X.prog X.w H h':=λ{a h'}ha hs b ac e=>by
  obtain⟨_,_,ae⟩:=ha;refine(B.Av b ac e).Ia (λc I hc q=>(hs.2 c ?_).trans q) aGa λ_ _ q=>q;rintro rfl;rcases hc with rfl|hc
  .rw[ae] at e;cases e
  rw[ae] at hc;cases hc
 rcases hx with hk|hk
 .refine wpAny_storeName_local hk G (λh' af hs=>?_) (qF B.ok.kind);obtain⟨ag,_,_,ah,_⟩:=id G;refine h _ (174,(_,af,aQu),aKr,B.free,B.Gn,hE,tracked (mO ag ah B.free) hs,153) (_,hs,aZ)
  .exact aKs.trans aQv
  .obtain⟨sl,J⟩:=mC5 B.base.slot;exact(sl,aKs.trans J)
  .obtain⟨o',J⟩:=aQw;exact(o',aKs.trans J)
  .by_cases hj:j=i
   .subst hj;rw[hi] at J;cases J;rw[Avi ab] at L
    cases L
    exact(u,r,mH (hk,9))
   rw[Avw (Asr hj)] at L;obtain⟨u',N,q⟩:=aQx;refine(rF u' N);rcases q with⟨k,e⟩|⟨k,c,e,z⟩
   .refine mH (oH k);have:y≠x:=λe=>hj (TZ D J (e▸hi));simp[this,e]
   exact mI (k,c,e,aQy)
  .obtain⟨I,z⟩:=B.cell y c e;exact(I,aQy)
  obtain⟨e,n,ne,O,d⟩:=rC B.FH;exact((hs.2 p.1 ne).trans e,n,ne,O,d)
 have U:nI X.fn x:=by
  rcases hf with z|z
  .exact z
  rw[z] at hk;cases hk
 obtain⟨c,hc⟩:=B.ok.Lf x (mH hk);obtain⟨I,z⟩:=B.cell x c hc;refine wpAny_storeName_cell B.ok.kind hk hc z (λh' hc' hs=>?_);obtain⟨ai,aj,ak⟩:=id z;refine h {s with heap:=h'} (174,(m,G.sameBut hs (Asr (Lh x c hc)),aQu),λy Y e=>?_,B.free,B.Gn,hE,tracked (ai,aj,B.Gn x c hc) hs,153) (c,hs,mI hc)
 .exact aKt.trans aQv
 .obtain⟨sl,J⟩:=mC5 B.base.slot;exact(sl,aKt.trans J)
 .obtain⟨o',J⟩:=aQw;exact(o',aKt.trans J)
 .by_cases hj:j=i
  .subst hj;rw[hi] at J;cases J;rw[Avi ab] at L
   cases L
   exact(u,r,mI (mH hk,c,hc,hc'))
  rw[Avw (Asr hj)] at L;obtain⟨u',N,q⟩:=aQx;refine(rF u' N);rcases q with q|⟨k,Y,e,al⟩
  .exact iS
  refine mI (k,Y,e,al.sameBut hs ?_);rintro rfl;exact hj (TZ D J (B.ok.inj _ _ _ e hc▸hi))
 .by_cases am:Y=c
  .subst am;exact(qU hc')
  obtain⟨an,ao⟩:=B.cell y Y e;exact(an,ao.sameBut hs am)
 obtain⟨e,n,ne,O,d⟩:=rC B.FH;refine((hs.2 p.1 ?_).trans e,n,ne,O,d);intro q;rw[q,aj] at e;exact d I (uJ aAm ak)
theorem T_(j:aE)(n:X.N.Nodup)(hi:aCp)(hx:mAo O6)(r:fH)
 (h:∀s',mBA aKq H->Q () s') (hf:aD5:=by first|exact aZ|exact dZ|assumption):wpAny M A (mH5 x u) Q E s:=
 Yk j n hi hx r (λs' q _=>h s' q) hf
theorem Inv.Ah0(j:aE)(q:s'.os=s.os)(u:mE5 aGf ch s'.heap)(Av:mE4 s'.heap)(hg:mC4 s'.gens)
 (z:aKj):Inv X pins σ H' s':=by
 obtain⟨h',g',d',t',o'⟩:=s';subst q;exact j.call (g':=g') (t':=t') (d':=d') u Av hg z
end
abbrev XK:=Value-> hV ->Hp->Prop
abbrev St:=mY bO
abbrev VK:=V->Hp->Prop
abbrev TE:=St->Hp->VK->Prop
abbrev TT:=St->Hp-> lC ->Prop
abbrev TA:=St->Hp->(mC6 aK)->Prop
structure Hv where
 nx:St->Hp->Prop
 rt:VK
 bk:vE St:=λ_ _=>False
 ct:vE St:=λ_ _=>False
abbrev TS:=Hv->St->Hp->Prop
def EP(X:Cx)(pins:bA)(σ:St)(Q:VK)(u:Value)(s':Shared):Prop:=∃v H',aBf /\ fH /\oJ v
def TP(X:Cx)(pins:bA)(σ:St)(Q:lC)(b:Bool)(s':Shared):Prop:=∃H',aBf /\oJ b
def AP(X:Cx)(pins:bA)(σ:St)(Q:mC6 aK)(us:aT)(s':Shared):Prop:=∃vs H',aBf /\qO vs/\oJ vs
def SP(X:Cx)(pins:bA)(D:Hv)(f:Flow)(s':Shared):Prop:=
 match f with
 | .next=>∃j H',aD6 /\D.nx j H'
 | .brk=>∃j H',aD6 /\D.bk j H'
 | .cont=>∃j H',aD6 /\D.ct j H'
 | .ret u=>∃v j H',aD6 /\ fH /\D.rt v H'
def PE(X:Cx)(e:Expr)(t:TE):Prop:=
 ∀(pins:bA)(s:Shared)(σ:St)(H:Hp)(Q:VK),aE -> aBg ->sG (oU e) gE s
def PT(X:Cx)(e:Expr)(t:TT):Prop:=
 ∀(pins:bA)(s:Shared)(σ:St)(H:Hp)(Q:lC),aE -> aBg ->mLW (oU e)
def PW(X:Cx)(e:Expr)(t:TT):Prop:=
 ∀(whole:Sem Value)(pins:bA)(s:Shared)(σ:St)(H:Hp)(Q:lC),aE -> aBg ->mLW whole
theorem PW.pt(h:PW X e t):PT X e t:=h _
def PA(X:Cx)(es:hW)(t:TA):Prop:=
 ∀(pos:Pos)(pins:bA)(s:Shared)(σ:St)(H:Hp)(Q:mC6 aK),aE -> aBg ->sG (spliced aQz) (AP X pins σ Q) s
def PS(X:Cx)(st:Stmt)(t:TS):Prop:=
 ∀(pins:bA)(s:Shared)(σ:St)(H:Hp)(D:Hv),aE ->t D σ H->mLX exec
def Go(X:Cx)(st:mY Stmt)(t:TS):Prop:=
 ∀(pins:bA)(s:Shared)(σ:St)(H:Hp)(D:Hv),aE ->t D σ H->mLX execs
theorem A5(h:xE M t Q s)(j:aQA):wpAny M A t n E s:=AtL h j λ_ _ x=>x
end L2
namespace L2
open PySem PySem.Spec PyProof.Rows
section
variable {X:Cx}
def Bo(i:Nat):TE:=λσ H Q=>∃v,σ[i]? =aD3 /\ lD
def tC(v:V):TE:=λ_ H Q=>lD
theorem Ah1(j:aCp)(n:mAo TX)(hd:uM x:=by decide)(q:pG aQB:=by decide):PE X aCq (Bo i):=by
 intro pins s σ H Q z h;obtain⟨v,e,h⟩:=h;obtain⟨m,B,D⟩:=z.EX;obtain⟨u,r,l⟩:=D i x v j e n;have fin:EP X pins σ Q u s:=(v,H,z,r,h);rcases l with⟨hk,hm⟩|⟨hk,c,hc,G⟩
 .exact mH6 (mLY z.ok.kind B fin)
 rcases hk with hk|hk
 .exact mH6 (mLZ z.ok.kind G fin)
 exact mH6 (wpAny_loadName_free z.ok.kind hk hc G fin q)
theorem Ar{i j pos}:PE X (mE7 eZ) (tC eZ):=λ_ _ _ H _ n h=>wpAny_Constant_int (mE8 mE i h)
theorem Dw{b j pos}:PE X (mE7 (.bool b)) (tC (.bl b)):=λ_ _ _ H _ n h=>Constant_bool (.bl b,H,n,2,h)
theorem Da{j pos}:PE X (mE7 .none) aGj:=λ_ _ _ H _ n h=>Constant_none (.Ax,H,n,2,h)
theorem Ic{x j pos}:PE X (mE7 cX) (tC cX):=λ_ _ _ H _ n h=>Calls.Constant_str (cX,H,n.BW _,bY,h)
def Gl(X:Cx)(x:Str):Prop:=X.env.kindOf x=some .globalImplicit
theorem QB(j:aE)(hg:aAn)(hm:X.mg x=aM)(h:Q u s)
 (hd:uM x:=by decide):wpAny bM X.A (oU aCq) Q E s:=
 mL0 (Calls.loadGlobal_global aQC hm h)
theorem Gp(j:aE)(hg:aAn)(hm:tS x)(n:mE9 x=aM)(h:Q u s)
 (q:mC7 x:=by decide) (hd:uM x:=by decide):wpAny bM X.A (oU aCq) Q E s:=by
 obtain⟨z,h1,h2⟩:=j.mod.Ji;exact mL0 (Calls.loadGlobal_builtin aQC hm (xF j.ok.Ji h1.keeps j.bk) ((h2 x q).trans n) h)
theorem AQ(hg:aAn)(hm:X.mg x=aM)(r:fH)(hd:uM x:=by decide):PE X aCq (tC v):=
 λ_ _ _ H _ j h=>QB j hg hm (v,H,j,r,h) hd
variable {a b:Expr} {ta tb:TE} {pos:Pos}
def PC(X:Cx)(op:CmpOp)(a b:Expr)(t:TE):Prop:=
 ∀(pins:bA)(s:Shared)(σ:St)(H:Hp)(Q:VK),aE -> aBg ->
  wpAny bM X.A (oU a) (λv j=>sG (oU b) (λu n=>sG (compareOp op v u) gE n) j) X.xe s
theorem Ah2(b:Expr)(h:op≠ .In)(h2:op≠ .NotIn):mC8 b:=by
 have j:pG aQD:=by cases op<;>first|rfl|exact aAg
 have n:pG aQE:=by cases op<;>first|rfl|exact uK h2
 cases b<;>simp[behindInMarks,j,n]
def tB(t:TE):TT:=λσ H Q=>t σ H λx H1=>∃c,x= .bl c/\Q c H1
theorem Yl(h:PC X op a b t)(h1:mC8 b:=by first|exact Ah2 _ bB bB|rfl):PT X aKu (tB t):=by
 intro pins s σ H Q j hw;refine wpAny_isTrue_Compare1 (A5 (mC9 _) λv s1 h1=>A5 h1 λu s2 h2=>A5 h2 λc s3 (x,H1,n,z,B)=>?_) h1;obtain⟨d,rfl,q⟩:=B
 cases z
 exact Atm (mO H1 n q)
theorem D9(h:nR e t)(he:mH7 e e.pos:=by intro _;rfl):PT X e (tB t):=by
 intro pins s σ H Q j hw;refine mL1 (mL2 (mC9 _));obtain⟨d,rfl,q⟩:=B
 cases z
 exact Atm (mO H1 n q)
variable {tA tB':TT} {rest:hW}
def Ym(t u:TT):TT:=λσ H Q=>t σ H λc H1=>if c=true then mBB u else Q false H1
def tOr(t u:TT):TT:=λσ H Q=>t σ H λc H1=>if c=true then Q true H1 else mBB u
def Ah4(t:TT):TT:=λσ H Q=>t σ H λc H1=>Q (!c) H1
theorem Jk(ha:mBC a):PW X (mDa .And [a]) tA:=by
 intro j pins s σ H Q n h;refine isTrue_and aQF
 cases c with
 |true=>exact isTrue_and_nil e
 |false=>exact e
theorem JX(ha:mBC a):PW X (mDa .Or [a]) tA:=by
 intro j pins s σ H Q n h;refine isTrue_or aQF
 cases c with
 |false=>exact isTrue_or_nil e
 |true=>exact e
theorem Gq(ha:mBC a)(hb:PW X (mFa .And) tB'):PW X (mFb .And) (Ym tA tB'):=by
 intro j pins s σ H Q n h;refine isTrue_and aQG
 cases c with
 |true=>exact aQH
 |false=>exact(mO H1 q z)
theorem Id(ha:mBC a)(hb:PW X (mFa .Or) tB'):PW X (mFb .Or) (tOr tA tB'):=by
 intro j pins s σ H Q n h;refine isTrue_or aQG
 cases c with
 |true=>exact(mO H1 q z)
 |false=>exact aQH
theorem Ff(ha:mBC a):PT X (.UnaryOp .Not a pos) (Ah4 tA):=by intro pins s σ H Q j h;exact isTrue_not (ha pins s σ H (λc H1=>Q (!c) H1) j h)
def Ah5(ta tb:TE):TE:=λσ H Q=>ta σ H λx H1=>∃c,x= .bl c/\if c=true then mBB tb else Q aBh H1
def Ah6(ta tb:TE):TE:=λσ H Q=>ta σ H λx H1=>∃c,x= .bl c/\if c=true then Q aGk H1 else mBB tb
theorem JY{op}(h:nR a t):PE X (mDa op [a]) t:=λpins s σ H Q j hw=>BoolOp_one (mC9 Q)
theorem OB(ha:hX)(hb:nR (mFa .And) tb):PE X (mFb .And) (Ah5 ta tb):=by
 intro pins s σ H Q j h;refine BoolOp_and aQI;obtain⟨c,rfl,z⟩:=z
 cases q
 refine Atm ?_
 cases c with
 |true=>exact mBD hb Q z
 |false=>exact(aBh,H1,n,2,z)
theorem QC(ha:hX)(hb:nR (mFa .Or) tb):PE X (mFb .Or) (Ah6 ta tb):=by
 intro pins s σ H Q j h;refine BoolOp_or aQI;obtain⟨c,rfl,z⟩:=z
 cases q
 refine Atm ?_
 cases c with
 |false=>exact mBD hb Q z
 |true=>exact(aGk,H1,n,2,z)
def tIf(t:TT)(ta tb:TE):TE:=λσ H Q=>t σ H λc H1=>if c=true then mBB ta else mBB tb
theorem Ie(hc:mBC c)(ha:hX)(hb:aAo):PE X (.IfExp c a b pos) (tIf tA ta tb):=by
 intro pins s σ H Q j h;refine wpAny_IfExp aQJ
 cases d with
 |true=>exact mBD ha Q q
 |false=>exact mBD hb Q q
end
end L2
namespace L2
open PySem PySem.Spec PyProof.Rows
def Ae(K:PySem.W.Frag)(H:Hp)(a:Addr)(xs:aK):Prop:=
 tR (.Ac xs)\/
  ∃(o:Obj)(its:jX)(n:Nat),rS a=aH /\o.cls= fJ /\o.dict=none/\o.data= mAh its/\its.size<=sizeLine/\ aQK
def A8(K:PySem.W.Frag)(H:Hp)(a:Addr)(xs:aK):Prop:=
 tR iY \/
  ∃(o:Obj)(its:jX)(n:Nat),rS a=aH /\o.cls= hB /\o.data= mAh its/\its.size<=sizeLine/\ aQK
def Ah8:Value-> bO
 | .none=>some .Ax
 | .bool b=>yR b
 | .int i _=>mW i
 | .str x _=>mB cX
 | .bytes b _=>mB (.FG b)
 | .float b _=>mB (.Q9 b)
 | .ref a=>mG a
 | .type n=>mB (.ty n)
 |_=>none
theorem AJ.Yn(r:sV x):oB Ah8 u x:=by
 cases x with
 |Ax=>cases r;rfl
 |bl _=>cases r;rfl
 |int _=>obtain⟨t,rfl⟩:=r;rfl
 |str _=>obtain⟨t,rfl⟩:=r;rfl
 |FG _=>obtain⟨t,rfl⟩:=r;rfl
 |Q9 _=>obtain⟨t,rfl⟩:=r;rfl
 |ref _=>cases r;rfl
 |ty _=>cases r;rfl
theorem AJ.inj(r:sV x)(q:eO):x=y:=Ase (r.Yn.symm.trans q.Yn)
theorem AB.inj:∀{xs ys:aK}{us:aT},fG ->qO ys->xs=ys
 |_,_,_,.nil,.nil=>rfl
 |_,_,_,.cons r t,.cons j t'=>by rw[r.inj j,AB.inj t t']
section
variable {X:Cx} {pins:bA} {σ:St} {H:Hp} {s:Shared} {a:Addr} {xs ys:aK}
theorem Ae.of{K:PySem.W.Frag}(h:H a=hG):Ae K H a xs:= oA mH h
theorem A8.of{K:PySem.W.Frag}(h:H a=fL):A8 K H a xs:= oA mH h
theorem Inv.list(j:aE)(h:mBE Ae):mL3 PlainL:=by
 rcases h with h|⟨o,its,n,hk,hc,hd,hs,hz,r⟩
 .obtain⟨z,its,n,r,e⟩:=h.ok j.Av;exact(its,r,(_,n,e,29,2),z)
 refine(its.toList,r,(o,n,mFc a,hc,hd,186),5);have e:=r.length;simp at e;omega
theorem Inv.tuple(j:aE)(h:mBE A8):mL3 IsTup:=by
 rcases h with h|⟨o,its,n,hk,hc,hs,hz,r⟩
 .obtain⟨z,its,r,p⟩:=h.ok j.Av;exact(its,r,p,z)
 refine(its.toList,r,(o,mFc a,hc,n,186),5);have e:=r.length;simp at e;omega
theorem Inv.M6(j:aE)(h:mBE Ae)(h':Ae X.K H a ys):xs=ys:=by
 obtain⟨its,r,⟨o,n,e,_,_,d⟩,_⟩:=yS h;obtain⟨its',q,⟨o',n',e',_,_,d'⟩,_⟩:=yS h';rw[e] at e';cases e';rw[d] at d';injection d' with z _
 have:its=its':=aQL;subst this;exact r.inj q
theorem Inv.Ua(j:aE)(h:mBE A8)(h':A8 X.K H a ys):xs=ys:=by
 obtain⟨its,r,⟨o,e,_,n,d⟩,_⟩:=j.tuple h;obtain⟨its',q,⟨o',e',_,n',d'⟩,_⟩:=j.tuple h';rw[e] at e';cases e';rw[d] at d';injection d' with z _
 have:its=its':=aQL;subst this;exact r.inj q
end
abbrev Cx.Ig(X:Cx)(E:bK):Cx:={X with xe:=E}
abbrev Cx.QD(X:Cx):Cx:=X.Ig λ_ _=>False
theorem Cx.Ok.Ig{X:Cx}(ok:X.Ok)(E:bK):aD7.Ok:=
 aQM
theorem Cx.Ok.JZ{X:Cx}(ok:aD7.Ok):X.Ok:=
 aQM
section
variable {X:Cx} {pins:bA} {σ:St} {H:Hp} {s:Shared} {E:bK}
theorem Inv.Ig(j:aE)(E:bK):Inv aD7 pins σ H s:=(j.ok.Ig E,175)
theorem Inv.JZ(j:Inv aD7 pins σ H s):Inv X pins σ H s:=(j.ok.JZ,175)
theorem SP.JZ(h:SP aD7 pins D f s'):SP X pins D f s':=by
 cases f with
 |next=>obtain⟨j,H',z,q⟩:=h;exact aKv
 |brk=>obtain⟨j,H',z,q⟩:=h;exact aKv
 |cont=>obtain⟨j,H',z,q⟩:=h;exact aKv
 |ret u=>obtain⟨v,j,H',z,r,q⟩:=h;exact(v,j,H',z.JZ,r,q)
theorem Go.QD{st:mY Stmt}(h:Go X.QD st t):Go X st t:=λpins s σ H D j hw=>
 AtL (h pins s σ H D (j.Ig _) hw) (λ_ _ q=>q.JZ) λ_ _ z=>sH z
end
section
variable {X:Cx} {st:Stmt} {rest:mY Stmt} {t u:TS} {e:Expr} {te:TE} {pos:Pos}
def Ih:TS:=λD σ H=>sX H
def EL(t u:TS):TS:=λD σ H=>t {D with nx:=u D} σ H
theorem AY:Go X [] Ih:=λ_ _ σ H _ j h=>Avx aKw
theorem Ak(h1:PS X st t)(h2:Go X rest u):Go X (st::rest) (EL t u):=by
 intro pins s σ H D j h;refine wpAny_execs_cons (A5 (h1 pins s σ H {D with nx:=u D} j h) λf s1 q=>?_)
 cases f with
 |next=>
  obtain⟨n,H',z,q⟩:=q;exact h2 pins s1 n H' D z q
 |ret v=>exact q
 |brk=>exact q
 |cont=>exact q
theorem Ao(h1:PS X st t):Go X [st] t:=by
 intro pins s σ H D j h;refine wpAny_execs_cons (A5 (h1 pins s σ H D j h) λf s1 q=>?_)
 cases f with
 |next=>exact Avx q
 |ret v=>exact q
 |brk=>exact q
 |cont=>exact q
def Ah9:TS:=λD σ H=>D.ct σ H
theorem Yo:PS X (.Continue pos) Ah9:=λ_ _ σ H _ j h=>wpAny_Continue aKw
theorem Inv.quiet(j:aE):pV interactive X.env:=by simp[interactive,j.ok.kind]
def OC(te:TE):TS:=λD σ H=>te σ H λ_ H1=>sX H1
theorem Cu(he:hH)(hs:swapsWith e none pos.line X.env=pure false:=by rfl):PS X (.Expr e pos) (OC te):=by intro pins s σ H D j h;exact wpAny_Expr_any (mL4 (σ,H1,n,z)) j.quiet hs
def J_(te:TE):TS:=λD σ H=>te σ H D.rt
theorem A3(he:hH):PS X (.Return (mB e) pos) (J_ te):=by intro pins s σ H D j h;exact wpAny_Return_some (mL4 (x,σ,H1,n,q,z))
def Ii(c:TT)(t u:TS):TS:=λD σ H=>c σ H λb H1=>if b=true then t D σ H1 else u D σ H1
theorem AU(hc:PT X c tc)(ha:Go X a t)(hb:Go X b u):PS X (.If c a b pos) (Ii tc t u):=by
 intro pins s σ H D j h;refine wpAny_If aQJ
 cases d with
 |true=>exact mBD ha D q
 |false=>exact mBD hb D q
end
abbrev TG:=V->St->Hp-> gF ->Prop
abbrev OD:=aK ->St->Hp-> gF ->Prop
def PG(X:Cx)(target:Expr)(t:TG):Prop:=
 ∀(pins:bA)(s:Shared)(σ:St)(H:Hp)(v:V)(u:Value)(Q:gF),aE -> fH ->t v σ H Q->
  wpAny bM X.A (assign target X.env u) (λ_ s'=>∃j H',aD6 /\oJ j) X.xe s
def OE(X:Cx)(j:hW)(t:OD):Prop:=
 ∀(pins:bA)(s:Shared)(σ:St)(H:Hp)(vs:aK)(us:aT)(Q:gF),aE ->qO vs->t vs σ H Q->
  wpAny bM X.A (assignInOrder ((yT j).map (·.2)) us) (λ_ s'=>∃n H',mBA n H'/\oJ n) X.xe s
abbrev Ub:=V->V->V->Hp-> hI ->Prop
def Uc(X:Cx)(t:Ub):Prop:=
 ∀(pins:bA)(s:Shared)(σ:St)(H:Hp)(o i v:V)(j iv u:Value)(Q:hI),aE ->AJ o j->AJ i iv-> fH ->t o i v H Q->
  wpAny bM X.A (setItem j iv u) (λ_ s'=>∃H',aBf /\Q H') X.xe s
abbrev Ud:=V->V->Hp->VK->Prop
def Yp(X:Cx)(op:Operator)(t:Ud):Prop:=
 ∀(pins:bA)(s:Shared)(σ:St)(H:Hp)(x y:V)(v u:Value)(Q:VK),aE -> hY -> eO ->t x y H Q->
  wpAny bM X.A (inplaceOp op v u) gE X.xe s
section
variable {X:Cx} {pos:Pos}
def EY(i:Nat):TG:=λv σ H Q=>Q aKq H
theorem AI(j:X.N.Nodup)(hi:aCp)(hx:mAo O6)(hf:aD5:=by first|exact aZ|exact dZ|assumption):PG X aCq (EY i):=by intro pins s σ H v u Q n r h;exact wpAny_assign_Name (T_ n j hi hx r (λs' q=>(_,H,q,h)) hf)
def Ue:OD:=λvs σ H Q=>vs=[]/\Q σ H
def OF(t:TG)(u:OD):OD:=λvs σ H Q=>∃v r,vs=v::r/\t v σ H λj H'=>u r j H' Q
theorem F2:OE X [] Ue:=by
 intro pins s σ H vs us Q j r h;obtain⟨e,h⟩:=h;subst e
 cases r
 exact assignInOrder_nil aKw
theorem CG(h1:PG X e t)(h2:OE X es u)
 (hs:(yT gP).map (·.2)=assign e X.env::(yT es).map (·.2):=by rfl):OE X gP (OF t u):=by
 intro pins s σ H vs us Q j r h;obtain⟨v,n,q,h⟩:=h;subst q
 cases r with
 |cons r z=>
  rw[hs];refine assignInOrder_cons (A5 (h1 pins s σ H _ _ _ j r h) λ_ s1 (B,H1,D,G)=>?_);exact h2 pins s1 B H1 _ _ Q D z G
def QE(K:PySem.W.Frag)(n:Nat)(t:OD):TG:=λv σ H Q=>∃a xs,v= aI /\wA H/\xs.length=n/\t xs σ H Q
theorem AhA(hc:fN)(h:OE X es t)
 (j:tO yT es n:=by rfl) (q:(yT es).findIdx? (·.1)=none:=by rfl):PG X (mH8 k) (QE X.K n t):=by
 intro pins s σ H v u Q z r hw;obtain⟨a,xs,B,hq,D,hw⟩:=hw;subst B
 cases r
 obtain⟨its,G,I,hz⟩:=z.tuple hq;refine assign_Tuple_tuple (z.ok.hd hc) I (by simp[j,<-D,G.length]) q λh' hx=>?_;exact h pins _ σ H xs _ Q (z.CF (t':=s.toks) λb o e=>hx b o (AsP fK) e) (mR G) hw
def AhB(to j:TE)(t:Ub):TG:=λv σ H Q=>to σ H λo H1=>j σ H1 λi H2=>t o i v H2 λn=>Q σ n
theorem AhC(j:kB)(hi:nR i n)(hs:Uc X t)
 (ha:∀v,assign aKx X.env v=(do
  let q<-holding [v] (oU o);let iv<-holding [v,q] (oU i)
  standAt pos
  holding [v,q,iv] (setItem q iv v)
  release [v,q,iv] []):=by intro _;rfl):PG X aKx (AhB to n t):=by
 intro pins s σ H v u Q z r h;rw[ha];refine mZ (Au0 (A5 (oQ j z) λq s1 (x,H1,B,D,G)=>?_));refine mZ (Au0 (A5 (rT hi B G) λiv s2 (y,H2,I,J,L)=>?_));refine ArZ (wpAny_standAt (ArZ (Au0 (A5 (hs pins s2 σ H2 x y v q iv u _ I D J r L) λ_ s3 (M,N,O)=>?_))));exact wpAny_release (σ,M,N,O)
def OG(te:TE)(g:TG):TS:=λD σ H=>te σ H λx H1=>g x σ H1 D.nx
theorem AhD(he:hH)(hg:PG X tg g)(hs:swapsWithSole [tg] e pos.line X.env=pure false:=by rfl)(hw:swappedStores [tg] e X.env=pure none:=by rfl)
 (h1:(yT [tg]).map (·.2)=[assign tg X.env]:=by rfl):PS X (mFd [tg] e) (OG te g):=by
 intro pins s σ H D j h;refine wpAny_Assign_stores (mL2 aCr) hs hw;rw[h1];exact A5 (hg pins s1 σ H1 x v _ n z B) λ_ s2 q=>q
theorem A6(j:X.N.Nodup)(hi:aCp)(hx:mAo O6)(he:hH)(hs:mH9 e aKy:=by rfl)(hf:aD5:=by first|exact aZ|exact dZ|assumption):
 PS X (mFd [aKy] e) (OG te (EY i)):=by
 intro pins s σ H D n h;refine wpAny_Assign_Name (A5 (oQ he n) λv s1 (y,H1,q,z,B)=>?_) hs;exact T_ q j hi hx z (λs2 G=>(_,H1,G,B)) hf
def Yq(i:Nat)(te:TE)(j:Ud):TS:=λD σ H=>∃x,σ[i]? =mB aY /\te σ H λy H1=>j x y H1 λz H2=>D.nx (σ.set i (mB z)) H2
theorem Hw(j:X.N.Nodup)(hi:aCp)(hx:mAo O6)(he:hH)(n:Yp X op q)(hf:aD5:=by first|exact aZ|exact dZ|assumption):
 PS X (mIa aKy e) (Yq i te q):=by
 intro pins s σ H D B h;obtain⟨v,G,h⟩:=h;obtain⟨m,I,J⟩:=B.EX;obtain⟨u,r,l⟩:=J i x v hi G (by rcases hx with k|k;exact mH k;exact mBm k);refine wpAny_AugAssign_Name ?_;have go:wpAny bM X.A (oU e) (λw L=>sG (inplaceOp op u w) (λr M=>sG (mH5 x r) (λ_=>SP X pins D .next) M) L) X.xe s:=by refine A5 (oQ he B) λw s1 (y,H1,N,O,U)=>?_;refine A5 (n pins s1 σ H1 v y u w _ N r O U) λz s2 (aa,H2,Y,ab,ac)=>?_;exact T_ Y j hi hx ab (λs3 ae=>(_,H2,ae,ac)) hf
 rcases l with⟨hk,hm⟩|⟨hk,c,hc,af⟩
 .exact mLY B.ok.kind I go
 rcases hk with hk|hk
 .exact mLZ B.ok.kind af go
 rcases hx with k|k
 .have:mDb x=some .free:=hk;rw[k] at this;cases this
 have:mDb x=some .free:=hk;rw[k] at this;cases this
def AhE(to j te:TE)(n:aD8)(q:Ud)(B:Ub):TS:=λD σ H=>to σ H λo H1=>j σ H1 λi H2=>n o i H2 λx G=>te σ G λy I=>q x y I λz J=>B o i z J λL=>sX L
def Yr(X:Cx)(t:aD8):Prop:=
 ∀(pins:bA)(s:Shared)(σ:St)(H:Hp)(o i:V)(j iv:Value)(Q:VK),aE ->AJ o j->AJ i iv->t o i H Q->
  wpAny bM X.A (getItem j iv) gE X.xe s
theorem QF(j:kB)(hi:nR i n)(hg:Yr X q)(he:hH)(hp:Yp X op z)(hs:Uc X B)
 (ha:∀G iv new,augStore i G iv new=(do holding [new,G,iv] (setItem G iv new);release [new,G,iv] [];pure .next):=by intros;rfl):PS X (mIa (mIb tpos) e) (AhE to n te q z B):=by
 intro pins s σ H D I h;refine wpAny_AugAssign_SubscriptAny (A5 (oQ j I) λG s1 (J,H1,L,M,N)=>?_) ha;refine A5 (rT hi L N) λiv s2 (O,H2,U,Y,aa)=>?_;refine A5 (hg pins s2 σ H2 J O G iv _ U M Y aa) λBM s3 (ab,ac,ae,af,ag)=>?_;refine A5 (he pins s3 σ ac _ ae ag) λv s4 (ah,ai,aj,ak,al)=>?_;refine A5 (hp pins s4 σ ai ab ah BM v _ aj af ak al) λnew s5 (am,an,ao,ap,aq)=>?_;exact A5 (hs pins s5 σ an J O am G iv new _ ao M Y ap aq) λ_ ar (as,au,av)=>(σ,as,au,av)
end
section
variable {X:Cx} {pos:Pos}
def Uf(c:TT)(tb:TS):TS:=λD σ H=>∃W:aCs,(∃m,W m σ H)/\∀m σ H,W m σ H->
 c σ H λb H1=>if b=true then∃N:gF,(∀j H',N j H'->∃n,n<m/\W n j H')/\tb {D with nx:=N,ct:=N,bk:=D.nx} σ H1 else sX H1
theorem Ka(hp:aQN)(hc:PT X c tc)(hb:Go X body tb):PS X (.While c body [] pos) (Uf tc tb):=by
 intro pins s σ H D j h;obtain⟨W,⟨m0,aa⟩,turn⟩:=h;refine wpAny_While (codeAny_whileLoop (λn s'=>∃q H',mBA q H'/\W n q H') ?_ m0 (σ,H,j,aa));rintro n s1 ⟨z,H1,ab,ac⟩;refine mAq (A5 (hc pins s1 z H1 _ ab (turn n z H1 ac)) λb s2 (H2,B,G)=>?_)
 cases b with
 |true=>
  obtain⟨N,I,G⟩:=G;rw[bE];refine mAq (A5 (hb pins s2 z H2 _ B G) λf s3 J=>?_)
  cases f with
  |next=>
   obtain⟨L,M,O,n3⟩:=J;obtain⟨U,hm,Y⟩:=I L M n3;exact aQO
  |cont=>
   obtain⟨L,M,O,n3⟩:=J;obtain⟨U,hm,Y⟩:=I L M n3;exact aQO
  |brk=>exact J
  |ret v=>exact J
 |false=>
  rw[mM Ast];exact Avx (z,H2,B,G)
end
structure It where
 go:Nat->Hp->Prop
 Fg:Nat->Hp->V->Hp->Prop
 stop:Nat->Hp->Prop
def Gr(X:Cx)(pins:bA)(H:Hp)(b:Addr):Prop:=
 H b=none/\b≠X.env.locals/\b∉X.fs/\(mLV b)/\(mH2 b)/\∀p∈X.pn++pins,p.1≠b
theorem Inv.Hx(j:aE)(hb:mE2 b)(B:nA H' b):Gr X pins H' b:=by
 refine(B,Auj (Ass j.lt hb),j.Ahy hb,mI (AsV j.sz hb),λx c e z=>?_,λp hp z=>?_)
 .obtain⟨v,q⟩:=aGe;exact mBv q.lt (oD z hb)
 exact absurd (Ass (Asu (rC j.FH).1) (oD z hb)) aGl
structure F3(P:Program)(w:World)(K:PySem.W.Frag)(tg:Expr)(J:It)(fp:aP)(it:Addr)(tn:mIc Nat):Prop where
 mem:it∈fp
 obj:∀i h,tn i h->∀b∈fp,∃o,hC=aH /\∀v,o.data≠ .cell v
 keep:∀i h h',tn i h->(∀b∈fp,∀o,hC=aH ->qG b=aH)->tn i h'
 item:∀(X:Cx),X.prog=P->X.w=w->X.K=K->X.calm=true->∀(i:Nat)(pins:bA)(s:Shared)(σ:St)(H:Hp)(E:bK),aE -> aQP -> aKz -> lE ->
  wpAny aAp X.A aD9 (λr s1=>∃u,r=aM /\
   wpAny aAp X.A aQQ (λ_ s2=>∃x H',sI H' s2/\sV x/\ lF /\tn (i+1) s2.heap/\∀b∈fp,eN=none) E s1) E s
 done:∀(X:Cx),X.prog=P->X.w=w->X.K=K->X.calm=true->∀(i:Nat)(pins:bA)(s:Shared)(σ:St)(H:Hp)(E:bK),aE -> aQP -> aKz ->xG i->
  wpAny aAp X.A aD9 (λr s1=>r=none/\sI H s1) E s
 self:∀(A:Around)(i:Nat)(s:Shared)(Q:bK)(E:bK),aKz ->Q iZ s->xE aAp (pyIter iZ) Q s
abbrev TI:=St->Hp->(vE It)->Prop
def Ug(X:Cx)(pins:bA)(σ:St)(tg:Expr)(R:vE It)(j:Value)(s2:Shared):Prop:=
 ∃(it:Addr)(n:aP)(q:mIc Nat)(J:It)(H':Hp),j= iZ /\sI H' s2/\F3 X.prog X.w X.K tg J n it q/\q 0 s2.heap/\(∀b∈n,mFe H' b)/\R J H'
def PI(X:Cx)(tg iter:Expr)(j:TI):Prop:=
 ∀(pins:bA)(s:Shared)(σ:St)(H:Hp)(R:vE It),aE ->j σ H R->
  wpAny bM X.A (oU iter) (λv s1=>sG (pyIter v) aQR s1) X.xe s
theorem Kc(j:nU it=aH)(hc:o.cls= oE n)(hd:o.data= mAl vs)
 (q:mL5 n) (z:Q () s):wpAny M A aQQ Q E s:=by
 cases tg<;>first
  |exact Asg z
  |(cases u<;>first
   |exact Asg z
   |(refine vZ wpAny_load j
     rw[hc,hd];show xE M (if(["enumerate","zip","dict_itemiterator","dict_reverseitemiterator","odict_iterator","itertools.zip_longest","itertools.pairwise"].contains n&&vs[0]? ==mB (rawInt _))=true then _ else _) Q s;rw[Asa (by intro h;rw[q,At5] at h;cases h)];exact Asg z))
def Cf(K:PySem.W.Frag)(a:Addr):It:=
 (mL6 aQS aQT aQU)
def GU(K:PySem.W.Frag)(a:Addr):It:=
 (mL6 aQV aQW aQX)
def Jl(lo:Int)(n:Nat):It:=(mL7 (lo+i))
theorem Ys{K:PySem.W.Frag}(a it:Addr):mId aAq (λi h=>aGm) where
 mem:=by simp
 obj:=λi h st b hb=>by have e:b=it:=cF;subst e;obtain⟨o,e,c,d⟩:=st;exact aGn
 keep:=λi h h' st k=>st.at λo e=>k it aC o e
 item:=by intro X j hw n hc i pins s σ H E q hf st hg;subst j hw n;obtain⟨xs,x,hq,hx⟩:=hg;obtain⟨its,B,p,hz⟩:=q.list hq;obtain⟨u,hu,D⟩:=B.get hx;obtain⟨f0,f1,f2,G,f4,I⟩:=eA;refine wpAny_pyNext_list_item st p.isList (x:=u) aCt λh' J L=>?_;obtain⟨o,e,c,d⟩:=id J;exact(u,2,mL8 q.M6)
 done:=by intro X j hw n hc i pins s σ H E q hf st hg;subst j hw n;obtain⟨xs,hq,hx⟩:=hg;obtain⟨its,B,p,hz⟩:=q.list hq;obtain⟨f0,f1,f2,G,f4,I⟩:=eA;have M:=B.length;exact wpAny_pyNext_list_end (q.ok.hd hc) st p.isList dM λh' N=>(mFf q.DN N)
 self:=λ_ _ _ _ _ st h=>wpAny_pyIter_listiter st h
theorem Yt{K:PySem.W.Frag}(a it:Addr):mId aGo (λi h=>aGp) where
 mem:=by simp
 obj:=λi h st b hb=>by have e:b=it:=cF;subst e;obtain⟨o,e,c,d⟩:=st;exact aGn
 keep:=λi h h' st k=>st.at λo e=>k it aC o e
 item:=by intro X j hw n hc i pins s σ H E q hf st hg;subst j hw n;obtain⟨xs,x,hq,hx⟩:=hg;obtain⟨its,B,p,hz⟩:=q.tuple hq;obtain⟨u,hu,D⟩:=B.get hx;obtain⟨f0,f1,f2,G,f4,I⟩:=eA;refine wpAny_pyNext_tuple_item st (mIe mAr a) (x:=u) aCt λh' J L=>?_;obtain⟨o,e,c,d⟩:=id J;exact(u,2,mL8 q.Ua)
 done:=by intro X j hw n hc i pins s σ H E q hf st hg;subst j hw n;obtain⟨xs,hq,hx⟩:=hg;obtain⟨its,B,p,hz⟩:=q.tuple hq;obtain⟨f0,f1,f2,G,f4,I⟩:=eA;have M:=B.length;exact wpAny_pyNext_tuple_end (q.ok.hd hc) st (mIe mAr a) dM λh' N=>(mFf q.DN N)
 self:=λ_ _ _ _ _ st h=>wpAny_pyIter_tupleiter st h
theorem AhF{K:PySem.W.Frag}(it:Addr)(lo:Int)(n:Nat):mId aGq (mL9 1) where
 mem:=by simp
 obj:=λi h st b hb=>by
  have e:b=it:=cF;subst e;exact(_,st,λv z=>by
   cases z)
 keep:=λi h h' st k=>k it aC _ st
 item:=by intro X j hw q hc i pins s σ H E B hf st hg;subst j hw q;obtain⟨f0,f1,f2,D,f4,G⟩:=eA;refine(mMa 1).item i s _ _ hg st λv h' tk I J L=>?_;obtain⟨t,rfl⟩:=I;refine(0,mMb (mE (lo+i),H,aQY,(oH t),aEa,J,aBi));rw[Int.mul_one]
 done:=by intro X j hw q hc i pins s σ H E B hf st hg;subst j hw q;obtain⟨f0,f1,f2,D,f4,G⟩:=eA;exact wpAny_pyNext_range_end aEb st (by have:n<=i:=hg;omega) λh' M=>aQZ
 self:=λ_ _ _ _ _ st h=>aQ0
end L2
namespace L2
open PySem PySem.Spec PyProof.Rows
section
variable {X:Cx} {tg:Expr}
def QG(K:PySem.W.Frag)(tl:TE):TI:=λσ H R=>tl σ H λx H1=>∃a,x= aI /\ aKA /\mAs Cf
def Yu(K:PySem.W.Frag)(tl:TE):TI:=λσ H R=>tl σ H λx H1=>∃a,x= aI /\(∃xs,wA H1)/\mAs GU
theorem Yv(j:nR l tl):PI X tg l (QG X.K tl):=by
 intro pins s σ H R n h;refine A5 aEc λv s1 (x,H1,z,B,D)=>?_;obtain⟨a,e,⟨xs,hq⟩,q⟩:=D;subst e
 cases B
 obtain⟨its,G,p,hz⟩:=z.list hq;refine At_ p.isList ?_;refine(mMc Ys);have e:mIf b:=cF;subst e;exact aKB
theorem AhG(j:nR l tl):PI X tg l (Yu X.K tl):=by
 intro pins s σ H R n h;refine A5 aEc λv s1 (x,H1,z,B,D)=>?_;obtain⟨a,e,⟨xs,hq⟩,q⟩:=D;subst e
 cases B
 obtain⟨its,G,p,hz⟩:=z.tuple hq;refine AtG (mIe s1.heap.IsTuple a) ?_;refine(mMc Yt);have e:mIf b:=cF;subst e;exact aKB
theorem Yw{lo hi:Int}(j:aE)(h1:-aBj <=lo)(h2:lo<2 ^ 62)(n:-aBj <=hi)(h4:hi<2 ^ 62)
 (q:R (Jl lo aKC.toNat) H):wpAny bM X.A (pyIter eP) aQR E {s with heap:=s.heap.push {cls:= aKe,data:= mEY u},toks:=tk}:=by
 refine mMd (small_one h1 h2 n h4);have z:Inv X pins σ H {s with heap:=s.heap.push {cls:= aKe,data:= mEY u},toks:=tk}:=j.CF λb o e=>jA;refine((mIg u).objs.size,[(mIg u).objs.size],19,H,2,z.CF (t':=tk) λb o e=>jA,AhF _ lo aKC.toNat,5,fM,q)
 .have B:lo+((0:Nat):Int)*1=lo:=aC;have D:((aKC.toNat:Nat):Int) - ((0:Nat):Int)=Builtin.Range.rangeSize lo hi 1:=(by rw[rangeSize_one];split<;>omega);rw[B,D];exact eQ
 have e:b=(mIg u).objs.size:=cF;subst e;exact aKB
def AhH(ta:TA):TI:=λσ H R=>ta σ H λvs H1=>∃j:Int,vs=[mE j]/\ -aBj <=j/\j<2 ^ 62/\R (Jl 0 j.toNat) H1
def AhI(ta:TA):TI:=λσ H R=>ta σ H λvs H1=>∃i j:Int,vs=[eZ,mE j]/\(-aBj <=i/\i<2 ^ 62/\ -aBj <=j/\j<2 ^ 62)/\R (Jl i (j - i).toNat) H1
theorem OH(hg:aKD)(hm:aKE)(ha:mBF [a])(hs:xH a:=by rfl):PI X tg (yU "range" [a]) (AhH ta):=by
 intro pins s σ H R n h;refine AuA (mIh n (mDc (A5 (xI H n) λus s1 (vs,H1,z,B,D)=>?_)));obtain⟨j,e,D,G,q⟩:=D;subst e
 cases B with
 |cons r I=>
  cases I
  obtain⟨t,rfl⟩:=r;exact call_range_1 (Yw z aA aA D G (mR q))
theorem AhJ(hg:aKD)(hm:aKE)(ha:mBF [a,b])(hs:mAt [a,b]=[(false,oU a,),(false,oU b,)]:=by rfl)(n:xH b:=by rfl):
 PI X tg (yU "range" [a,b]) (AhI ta):=by
 intro pins s σ H R z h;refine AuA (mIh z (AsO (mMe H z) (pW hs n) (qF n)));obtain⟨i,j,e,⟨G,I,J,L⟩,q⟩:=G;subst e
 cases D with
 |cons r M=>
  cases M with
  |cons N M=>
   cases M
   obtain⟨t,rfl⟩:=r;obtain⟨t',rfl⟩:=N;exact call_range_2 (Yw B G I J L q)
def M7(j:TI)(g:TG)(tb:TS):TS:=λD σ H=>j σ H λJ H1=>∃W:aCu,(mMf H1)/\∀i m σ H,aCv ->
 (xG i/\sX H)\/(lE /\∃N:gF,(∀n H',N n H'->∃q,q<m/\W (i+1) q n H')/\∀x H',lF ->g x σ H' λz H2=>tb {D with nx:=N,ct:=N,bk:=D.nx} z H2)
def OI(j:aP)(h:Heap):List aQk:=j.filterMap λb=>hC.map λo=>(b,o,)
theorem Uh(hb:b∈j)(e:hC=aH):(b,o,)∈OI j h:=List.mem_filterMap.mpr (b,hb,by rw[e];rfl)
theorem AhK(hp:p∈OI j h):p.1∈j/\oT p.1=some p.2:=by
 obtain⟨b,hb,e⟩:=List.mem_filterMap.mp hp
 cases q:hC with
 |none=>rw[q] at e;cases e
 |some o=>
  rw[q] at e;have e':=aAm;subst e';exact(hb,q)
theorem Inv.Yx(j:aE)(hf:∀b∈q,aEd)(B:∀b∈q,∃o,nU b=aH /\∀v,o.data≠ .cell v):Inv X (pins++OI q s.heap) σ H s:=
 j.Yj λp hp=>(oS hp).elim (λz=>j.FH p (rV z)) λz=>by obtain⟨hb,e⟩:=AhK z;obtain⟨f0,f1,f2,_⟩:=hf p.1 hb;obtain⟨o,e',d⟩:=B p.1 hb;rw[e] at e';cases e';exact(e,f0,f1,f2,d)
theorem Inv.QH(j:Inv X (pins++pl) σ H s):Inv X pins σ H s:=j.Yj λp hp=>j.FH p (rV (vD hp))
theorem BS(hp:aQN)(hc:fN)(hi:mFg aa)(hg:PG X tg g)(hb:Go X body tb)
 (hs:aGr:=by intro _;rfl):PS X (.For tg iter body [] pos) (M7 aa g tb):=by
 intro pins s σ H D ab h;refine wpAny_For (A5 (oQ hi ab) λv s1 h1=>A5 h1 λac s2 h2=>?_) hs;obtain⟨it,j,ae,J,H2,e,af,T,ag,f2,W,⟨m0,ah⟩,turn⟩:=h2;subst e;have stat:∀{H':Hp},aKF ->∀b∈j,Gr X pins H' b:=λai b hb=>(nJ ai,(nJ f2).2);refine codeAny_forLoop_any (λn s'=>∃i q H',mBA q H'/\ae i s'.heap/\ aKF /\W i n q H') ?_ m0 (60,σ,H2,af,ag,mAu (nJ f2).1,ah);rintro n s3 ⟨i,z,B,aj,ak,al,am⟩;rcases turn i n z B am with⟨stop,an⟩|⟨go,N,ao,step⟩
 .refine mAq (A5 (T.done X rfl rfl rfl hc i pins s3 z B X.xe aj (stat al) ak stop) λr s4 (G,ap)=>?_);subst G;exact Avx (z,B,ap,an)
 refine mAq (A5 (T.item X rfl rfl rfl hc i pins s3 z B X.xe aj (stat al) ak go) λr s4 (u,G,h4)=>?_);subst G;refine mAq (A5 h4 λ_ s5 (x,aq,ar,as,au,I,av)=>?_);refine mAq (A5 (hg _ s5 z aq x u _ (ar.Yx (stat av) (mC T.obj I)) as (step x aq au)) λ_ aw (ax,ay,az,a0)=>?_);refine mAq (A5 (hb _ aw ax ay _ az a0) λf a1 L=>?_);have again:∀{M:St}{O:Hp},Inv X (pins++OI j s5.heap) M O a1->N M O->∃m,m<n/\∃i q H',Inv X pins q H' a1/\ae i a1.heap/\ aKF /\W i m q H':=λ{M O}U Y=>by obtain⟨a2,hm,a3⟩:=ao M O Y;refine(a2,hm,i+1,M,O,U.QH,mMg I (U.FH (b,o,) aKG).1,fM,a3);obtain⟨o,e,d⟩:=mIi I;exact(U.FH (b,o,) aKG).2.1
 cases f with
 |next=>obtain⟨M,O,U,Y⟩:=L;exact again U Y
 |cont=>obtain⟨M,O,U,Y⟩:=L;exact again U Y
 |brk=>obtain⟨M,O,U,L⟩:=L;exact(M,O,U.QH,L)
 |ret v=>obtain⟨a4,M,O,U,a5,L⟩:=L;exact(a4,M,O,U.QH,a5,L)
end
theorem E4{K:PySem.W.Frag}{g:TG}{tb:TS}{D:Hv}(Pv:aCs)(h0:uN 0)(j:∀i σ H,i<=xs.length->uN i-> gQ)
 (hs:aQ1) (hd:mDd mDe):
 ∃W:aCu,aEe /\∀i m σ H,aCv ->
  (aAq.stop i H/\sX H)\/(aAq.go i H/\∃N:gF,(mMh i)/\∀x H',mDf aAq.Fg->g x σ H' λn H2=>tb {D with nx:=N,ct:=N,bk:=D.nx} n H2):=by
 refine(mDd mDg);rintro i m σ H ⟨rfl,hi,p⟩;have q:=j i σ H hi p;by_cases G:i<xs.length
 .refine mMi i;obtain⟨e,y⟩:=y;subst e;exact aQ2
 have e:i=xs.length:=aA;subst e;exact mMj H
theorem AhL{K:PySem.W.Frag}{g:TG}{tb:TS}{D:Hv}(Pv:aCs)(h0:uN 0)(j:∀i σ H,i<=xs.length->uN i->wA H)
 (hs:aQ1) (hd:mDd mDe):
 ∃W:aCu,aEe /\∀i m σ H,aCv ->
  (aGo.stop i H/\sX H)\/(aGo.go i H/\∃N:gF,(mMh i)/\∀x H',mDf aGo.Fg->g x σ H' λn H2=>tb {D with nx:=N,ct:=N,bk:=D.nx} n H2):=by
 refine(mDd mDg);rintro i m σ H ⟨rfl,hi,p⟩;have q:=j i σ H hi p;by_cases G:i<xs.length
 .refine mMi i;obtain⟨e,y⟩:=y;subst e;exact aQ2
 have e:i=xs.length:=aA;subst e;exact mMj H
theorem QI{lo:Int}{g:TG}{tb:TS}{D:Hv}(Pv:aCs)(h0:uN 0)
 (hs:∀i σ H,i<n->uN i->g (mE (lo+i)) σ H λj H2=>tb {D with nx:=aAr,ct:=aAr,bk:=D.nx} j H2) (hd:mDe n):
 ∃W:aCu,aEe /\∀i m σ H,aCv ->
  (aGq.stop i H/\sX H)\/(aGq.go i H/\∃N:gF,aQ3 /\∀x H',mDf aGq.Fg->g x σ H' λj H2=>tb {D with nx:=N,ct:=N,bk:=D.nx} j H2):=by
 refine(mDg n);rintro i m σ H ⟨rfl,hi,p⟩;by_cases B:i<n
 .refine aQ4;obtain⟨e,y⟩:=y;subst e y;exact hs i σ _ B p
 have e:i=n:=aA;subst e;exact aQ5
theorem Yy(Pv:gF)(j:St->Hp->Nat)(h0:Pv σ H)
 (hs:∀σ H,Pv σ H->c σ H λb H1=>if b=true then tb {D with nx:=λn H'=>Pv n H'/\j n H'<j σ H,ct:=λn H'=>Pv n H'/\j n H'<j σ H,bk:=D.nx} σ H1 else sX H1)
 (As:∀σ H Q z,(∀b H1,Q b H1->z b H1)->c σ H Q->c σ H z):Uf c tb D σ H:=by
 refine(λm σ H=>m=j σ H/\Pv σ H,(mEX h0),5);rintro m σ H ⟨rfl,p⟩;refine As σ H _ _ (λb H1 q=>?_) (hs σ H p)
 cases b with
 |true=>exact(_,λn H' (B,l)=>(_,l,2,B),q)
 |false=>exact q
end L2
namespace L2
open PySem PySem.Spec PyProof.Rows
abbrev R2:=V->V->Hp->VK->Prop
def Bt(X:Cx)(f:aQ6)(r:R2):Prop:=
 ∀(pins:bA)(s:Shared)(σ:St)(H:Hp)(x y:V)(v u:Value)(Q:VK),aE -> hY -> eO ->r x y H Q->
  wpAny bM X.A (f v u) gE X.xe s
def QJ(X:Cx)(f:Value->Sem Value)(r:aKH):Prop:=
 ∀(pins:bA)(s:Shared)(σ:St)(H:Hp)(x:V)(v:Value)(Q:VK),aE -> hY ->r x H Q->
  wpAny bM X.A (f v) gE X.xe s
def DW(X:Cx)(f:Value)(r:aAs):Prop:=
 ∀(pins:bA)(s:Shared)(σ:St)(H:Hp)(xs:aK)(us:aT)(Q:VK),aE -> fG ->r xs H Q->
  wpAny bM X.A (call f us) gE X.xe s
def AhM(X:Cx)(r:V->Hp-> lC ->Prop):Prop:=
 ∀(pins:bA)(s:Shared)(σ:St)(H:Hp)(x:V)(v:Value)(Q:lC),aE -> hY ->r x H Q->
  wpAny bM X.A (truthy v) aKI X.xe s
def CU(r:R2)(ta tb:TE):TE:=λσ H Q=>ta σ H λx H1=>tb σ H1 λy H2=>r x y H2 Q
def Ui(r:aKH)(ta:TE):TE:=λσ H Q=>ta σ H λx H1=>r x H1 Q
def rI(C:Int->Int->Prop)(g:mIj V):R2:=λx y H Q=>∃i j,x= eZ /\y= mE j/\C i j/\Q kC H
def DO(g:mIj V):R2:=λx y H Q=>∃i j,x= eZ /\y= mE j/\Q kC H
def rU(g:Int->V):aKH:=λx H Q=>∃i,x= eZ /\uO g i
section
variable {X:Cx} {a b c:Expr} {ta tb tc:TE} {pos:Pos}
theorem Uj(ha:hX)(hb:aAo){R:mMk V}(j:aE)
 (h:ta σ H λx H1=>tb σ H1 λy H2=>R x y H2) {f:aQ6}
 (hf:∀v u s2 x y H2,sI H2 s2-> hY -> eO ->R x y H2->sG (f v u) Q s2):
 wpAny bM X.A (oU a) (λv n=>sG (oU b) (λu q=>sG (f v u) Q q) n) X.xe s:=by
 refine A5 (oQ ha j) λv s1 (x,H1,z,B,D)=>?_;refine A5 (rT hb z D) λu s2 (y,H2,G,I,J)=>?_;exact hf v u s2 x y H2 G B I J
theorem AE(j:Bt X (binaryOp op) r)(ha:hX)(hb:aAo):PE X (.BinOp a op b pos) aGs:=by intro pins s σ H Q n h;exact wpAny_BinOp aQ7
theorem Db(j:QJ X (unaryOp op) r)(ha:hX):PE X (.UnaryOp op a pos) (Ui r ta):=by intro pins s σ H Q n h;exact UnaryOp_ (A5 aKJ λv s1 (x,H1,q,z,B)=>j pins s1 σ H1 x v Q q z B)
theorem QK{g:Int->Int->Int}
 (rule:∀(i j:Int)(t u:Tok)(s:Shared)(Q:bK)(E:bK),C i j->Q (mFh kC) {s with toks:=s.toks+1}-> aKK):
 Bt X f (mDh C kC):=by
 intro pins s σ H x y v u Q n z B h;obtain⟨i,j,rfl,rfl,hc,q⟩:=h;obtain⟨t,rfl⟩:=z;obtain⟨t',rfl⟩:=B;exact rule i j t t' s _ _ hc aQ8
theorem Jm{g:Int->Int->Int}
 (rule:∀(i j:Int)(t u:Tok)(s:Shared)(Q:bK)(E:bK),Q (mFh kC) {s with toks:=s.toks+1}-> aKK):
 Bt X f (mBG kC):=by
 intro pins s σ H x y v u Q n z B h;obtain⟨i,j,rfl,rfl,q⟩:=h;obtain⟨t,rfl⟩:=z;obtain⟨t',rfl⟩:=B;exact mMl aQ8
theorem QL{g:mIj Bool}
 (rule:∀(i j:Int)(t u:Tok)(s:Shared)(Q:bK)(E:bK),Q (.bool kC) s-> aKK):
 Bt X f (mDi kC):=by
 intro pins s σ H x y v u Q n z B h;obtain⟨i,j,rfl,rfl,q⟩:=h;obtain⟨t,rfl⟩:=z;obtain⟨t',rfl⟩:=B;exact mMl (.bl kC,H,n,2,q)
def AhN(i j:Int):Prop:=0<=j/\j<=1000000/\i.natAbs<2 ^ 64
def Yz(i j:Int):Prop:=(mMm i)\/(mMm j)
theorem Yz.ok(h:Yz i j):IntMulOk i j:=by
 rcases h with⟨h1,h2⟩|⟨h1,h2⟩
 .exact .of_left aQ9
 exact .of_right aQ9
theorem AhO(k:Nat):(0:Int)<=2 ^ k:=by rw[two_pow_cast];exact Int.natCast_nonneg _
theorem DA:Bt X aKL aKM:=Jm λ_ _ _ _ _ _ _ q=>add_int q
theorem FI:Bt X (binaryOp .Sub) aKN:=Jm λ_ _ _ _ _ _ _ q=>sub_int q
theorem AhP:Bt X (binaryOp .Mod) aRa:=QK λi j _ _ _ _ _ hc q=>by have h1:=hc;exact mod_int' aA (by rw[Int.fmod_eq_emod_of_nonneg i aA];exact q)
theorem AhQ:Bt X aRb (mDh (λ_ j=>0<=j) (i/2 ^ j.toNat)):=QK λi j _ _ _ _ _ hc q=>
 rshift_int hc (by rw[Int.fdiv_eq_ediv_of_nonneg i (AhO _)];exact q)
theorem Uk:Bt X aGt (mBG (Builtin.bitAnd i j)):=Jm λ_ _ _ _ _ _ _ q=>and_int q
theorem AhR:Bt X aRc aRd:=Jm λ_ _ _ _ _ _ _ q=>or_int q
theorem AhS:Bt X aRe aRf:=Jm λ_ _ _ _ _ _ _ q=>xor_int q
theorem Jn:Bt X (inplaceOp .Add) aKM:=Jm λ_ _ _ _ _ _ _ q=>iadd_int q
theorem Y0:Bt X (inplaceOp .Sub) aKN:=Jm λ_ _ _ _ _ _ _ q=>isub_int q
theorem AhT:Bt X aRg (mDh AhN aRh):=QK λ_ _ _ _ _ _ _ hc q=>ilshift_int_small hc.1 hc.2.1 hc.2.2 q
theorem AhU:Bt X aRi aRd:=Jm λ_ _ _ _ _ _ _ q=>ior_int q
theorem AhV:Bt X aRj aRf:=Jm λ_ _ _ _ _ _ _ q=>ixor_int q
theorem Y1{g:Int->Int}
 (rule:∀(i:Int)(t:Tok)(s:Shared)(Q:bK)(E:bK),Q (mFh (g i)) {s with toks:=s.toks+1}->wpAny bM X.A (f aDZ) Q E s):
 QJ X f (rU λi=> mE (g i)):=by
 intro pins s σ H x v Q j n h;obtain⟨i,rfl,q⟩:=h;obtain⟨t,rfl⟩:=n;exact rule i t s _ _ (mE (g i),144)
theorem DX:QJ X (unaryOp .USub) aKO:=Y1 λ_ _ _ _ _ q=>neg_int q
theorem M8:QJ X (unaryOp .Invert) (rU λi=> mE (Builtin.bitNot i)):=Y1 λ_ _ _ _ _ q=>invert_int q
end
def Y2:V->V->Bool
 | .Ax,.Ax=>true| .Ax,.int _=>true| .int _,.Ax=>true| .Ax,.bl _=>true| .bl _,.Ax=>true| .Ax,.str _=>true| .str _,.Ax=>true
 | .int _,.int _=>true| .bl _,.bl _=>true| .str _,.str _=>true| .FG _,.FG _=>true
 | .int _,.str _=>true| .str _,.int _=>true| .bl _,.str _=>true| .str _,.bl _=>true
 |_,_=>false
def QM:R2:=λx y H Q=>Y2 x y=true/\rG (decide (x=y))
def rNe:R2:=λx y H Q=>Y2 x y=true/\rG (!decide (x=y))
theorem Y3:decide (mQ i=mQ j)=aD0:=by rw[Aty];simp
theorem Y4:decide (V.bl i=V.bl j)=aD0:=by rw[Aty];simp
theorem Y5:decide (wB i=wB j)=aD0:=by rw[Aty];simp
theorem Y6:decide (V.FG i=V.FG j)=(i.toList==j.toList):=by
 rw[Aty]
 cases i
 cases j
 simp
section
variable {X:Cx} {a b c:Expr} {ta tb tc:TE} {pos:Pos}
theorem Cv(j:aE)(q:rG k)(e:k=k'):EP X pins σ Q (.bool k') s:=by subst e;exact(.bl k,H,j,2,q)
theorem CL:Bt X (compareOp .Eq) QM:=by
 intro pins s σ H x y v u Q n z B h;obtain⟨hs,q⟩:=h
 cases x with
 |Ax=>
  cases z
  cases y with
  |Ax=>cases B;exact PySem.EqNone.eq_none_none cY
  |bl j=>cases B;exact PySem.EqNone.eq_none_bool cY
  |int j=>obtain⟨t',rfl⟩:=B;exact PySem.EqNone.eq_none_int cY
  |str j=>obtain⟨t',rfl⟩:=B;exact PySem.EqNone.eq_none_str cY
  |_=>exact hZ
 |bl i=>
  cases z
  cases y with
  |Ax=>cases B;exact PySem.EqNone.eq_bool_none cY
  |bl j=>cases B;exact eq_bool (Cv n q Y4)
  |str j=>obtain⟨t',rfl⟩:=B;exact PySem.EqMixed.eq_bool_str cY
  |_=>exact hZ
 |int i=>
  obtain⟨t,rfl⟩:=z
  cases y with
  |Ax=>cases B;exact PySem.EqNone.eq_int_none cY
  |int j=>obtain⟨t',rfl⟩:=B;exact eq_int (Cv n q Y3)
  |str j=>obtain⟨t',rfl⟩:=B;exact PySem.EqMixed.eq_int_str cY
  |_=>exact hZ
 |str i=>
  obtain⟨t,rfl⟩:=z
  cases y with
  |Ax=>cases B;exact PySem.EqNone.eq_str_none cY
  |bl j=>cases B;exact PySem.EqMixed.eq_str_bool cY
  |int j=>obtain⟨t',rfl⟩:=B;exact PySem.EqMixed.eq_str_int cY
  |str j=>obtain⟨t',rfl⟩:=B;exact eq_str (Cv n q Y5)
  |_=>exact hZ
 |FG i=>
  obtain⟨t,rfl⟩:=z
  cases y with
  |FG j=>obtain⟨t',rfl⟩:=B;exact PySem.W.eq_bytes (Cv n q Y6)
  |_=>exact hZ
 |_=>cases y<;>exact hZ
theorem Y7:Bt X (compareOp .NotEq) rNe:=by
 intro pins s σ H x y v u Q n z B h;obtain⟨hs,q⟩:=h
 cases x with
 |Ax=>
  cases z
  cases y with
  |Ax=>cases B;exact PySem.EqNone.ne_none_none cY
  |bl j=>cases B;exact PySem.EqNone.ne_none_bool cY
  |int j=>obtain⟨t',rfl⟩:=B;exact PySem.EqNone.ne_none_int cY
  |str j=>obtain⟨t',rfl⟩:=B;exact PySem.EqNone.ne_none_str cY
  |_=>exact hZ
 |bl i=>
  cases z
  cases y with
  |Ax=>cases B;exact PySem.EqNone.ne_bool_none cY
  |bl j=>cases B;exact mFi ne_bool Y4
  |str j=>obtain⟨t',rfl⟩:=B;exact PySem.EqMixed.ne_bool_str cY
  |_=>exact hZ
 |int i=>
  obtain⟨t,rfl⟩:=z
  cases y with
  |Ax=>cases B;exact PySem.EqNone.ne_int_none cY
  |int j=>obtain⟨t',rfl⟩:=B;exact mFi ne_int Y3
  |str j=>obtain⟨t',rfl⟩:=B;exact PySem.EqMixed.ne_int_str cY
  |_=>exact hZ
 |str i=>
  obtain⟨t,rfl⟩:=z
  cases y with
  |Ax=>cases B;exact PySem.EqNone.ne_str_none cY
  |bl j=>cases B;exact PySem.EqMixed.ne_str_bool cY
  |int j=>obtain⟨t',rfl⟩:=B;exact PySem.EqMixed.ne_str_int cY
  |str j=>obtain⟨t',rfl⟩:=B;exact mFi ne_str Y5
  |_=>exact hZ
 |FG i=>
  obtain⟨t,rfl⟩:=z
  cases y with
  |FG j=>obtain⟨t',rfl⟩:=B;exact mFi PySem.W.ne_bytes Y6
  |_=>exact hZ
 |_=>cases y<;>exact hZ
theorem OJ:Bt X (compareOp .Lt) (mDi (decide (i<j))):=QL λ_ _ _ _ _ _ _ q=>lt_int q
theorem DB:Bt X (compareOp .LtE) aRk:=QL λ_ _ _ _ _ _ _ q=>le_int q
theorem Li:Bt X (compareOp .Gt) (mDi (decide (j<i))):=QL λ_ _ _ _ _ _ _ q=>gt_int q
theorem QN:Bt X (compareOp .GtE) (mDi (decide (j<=i))):=QL λ_ _ _ _ _ _ _ q=>ge_int q
theorem Ij:Bt X (compareOp .Is) aRl:=by
 intro pins s σ H x y v u Q j n z h;obtain⟨rfl,q⟩:=h
 cases z
 refine is_none_gen (Cv j q ?_)
 cases x<;>first
  |(cases n;rfl)
  |(obtain⟨t,rfl⟩:=n;rfl)
theorem AhX:Bt X (compareOp .IsNot) (λx y H Q=>y= .Ax/\rG (!decide (x= .Ax))):=by
 intro pins s σ H x y v u Q j n z h;obtain⟨rfl,q⟩:=h
 cases z
 refine isnot_none_gen (Cv j q ?_)
 cases x<;>first
  |(cases n;rfl)
  |(obtain⟨t,rfl⟩:=n;rfl)
theorem Bf(b:Expr)(h:op≠ .In:=by decide)(h2:op≠ .NotIn:=by decide):mC8 b:=by
 have j:pG aQD:=by cases op<;>first|rfl|exact aAg
 have n:pG aQE:=by cases op<;>first|rfl|exact uK h2
 cases b<;>simp[behindInMarks,j,n]
theorem Hy(j:aGu)(ha:hX)(hb:aAo)(hm:mC8 b):PE X aKu aGs:=by intro pins s σ H Q n h;exact wpAny_Compare1 aQ7 hm
def Kd(t:TE):TT:=λσ H Q=>t σ H λx H'=>∃k,x= .bl k/\oJ k
theorem Ba(j:aGu)(ha:hX)(hb:aAo)(hm:mC8 b):PT X aKu (Kd aGs):=by
 intro pins s σ H Q n h;refine wpAny_isTrue_Compare1 (A5 aKJ λv s1 (x,H1,q,B,D)=>A5 (rT hb q D) λu s2 (y,H2,G,I,J)=>
  A5 (j pins s2 σ H2 x y v u _ G B I J) λc s3 (z,L,M,N,k,e,O)=>?_) hm
 subst e
 cases N
 exact Atm (mO L M O)
def Y8(r j:R2)(ta tb tc:TE):TE:=λσ H Q=>ta σ H λx H1=>tb σ H1 λy H2=>r x y H2 λz n=>∃k,z= .bl k/\
 (if k=true then tc σ n λq B=>j y q B Q else Q aBh n)
theorem Ul(j:aGu)(n:mIk q B)(ha:hX)(hb:aAo)(hc:nR c tc)
 (hm:mMn [b,c]:=by with_unfolding_all rfl):PE X aRm aRn:=by
 intro pins s σ H Q D h;refine Compare_chain (A5 (oQ ha D) λv s1 (x,H1,G,I,J)=>chain_link (A5 (rT hb G J) λu s2 (y,H2,L,M,N)=>
  A5 aRo λd s3 (z,O,U,aa,k,e,Y)=>?_)) hm
 subst e
 cases aa
 refine Atm ?_
 cases k with
 |false=>exact ite_ff (aBh,O,U,2,Y)
 |true=>exact ite_tt (chain_last (A5 aRp λab s4 (ac,ae,af,ag,ah)=>n pins s4 σ ae y ac u ab Q af M ag ah))
theorem QO(j:aGu)(n:mIk q B)(ha:hX)(hb:aAo)(hc:nR c tc)
 (hm:mMn [b,c]:=by with_unfolding_all rfl):PT X aRm (Kd aRn):=by
 intro pins s σ H Q D h;refine isTrue_chain (A5 (oQ ha D) λv s1 (x,H1,G,I,J)=>test_link (A5 (rT hb G J) λu s2 (y,H2,L,M,N)=>
  A5 aRo λd s3 (z,O,U,aa,k,e,Y)=>?_)) hm
 subst e
 cases aa
 refine Atm ?_
 cases k with
 |false=>
  obtain⟨k',e',ab⟩:=Y
  cases e'
  exact ite_ff (mO O U ab)
 |true=>
  refine ite_tt (test_last (A5 aRp λac s4 (ae,af,ag,ah,ai)=>A5 (n pins s4 σ af y ae u ac _ ag M ah ai) λd' s5 (aj,ak,al,am,an,ao,ap)=>?_));subst ao
  cases am
  exact Atm (mO ak al ap)
def Um(K:PySem.W.Frag)(x:V)(H:Hp)(k:Bool):Prop:=
 match x with
 | .Ax=>k=false
 | .bl b=>k=b
 | .int i=>k=(i != 0)
 | .str y=>y.length<=sizeLine/\k=aRq
 | .FG y=>y.size<=sizeLine/\k=aRr
 | .ref p=>(∃xs,aEf /\k= !xs.isEmpty)\/(∃xs,A8 K H p xs/\k= !xs.isEmpty)\/∃kvs,H p=aCw /\k= !kvs.isEmpty
 |_=>False
theorem AhY(r:hU):(!vs.isEmpty)= !kvs.isEmpty:=by
 cases r<;>rfl
theorem Y9(r:aD2):(!its.toArray.isEmpty)= !xs.isEmpty:=by
 cases r<;>simp
theorem Ke:(sizeLine:Nat)<2 ^ 63:=by rw[AuP];decide
theorem AhZ:AhM X (λx H Q=>∃k,Um X.K x H k/\Q k H):=by
 intro pins s σ H x v Q j n h;obtain⟨k,e,q⟩:=h;have z:=Ke;have hs:=AuP
 cases x with
 |Ax=>
  cases n
  have e':=e;subst e';exact truthy_none aKP
 |bl b=>
  cases n
  have e':=e;subst e';exact Atm aKP
 |int i=>
  obtain⟨t,rfl⟩:=n;have e':=e;subst e';exact PySem.P.truthy_int aKP
 |str y=>
  obtain⟨t,rfl⟩:=n;obtain⟨hy,e'⟩:y.length<=sizeLine/\k=aRq:=e;subst e';exact PySem.P.truthy_str aA (mO H fO q)
 |FG y=>
  obtain⟨t,rfl⟩:=n;obtain⟨hy,e'⟩:y.size<=sizeLine/\k=aRr:=e;subst e';exact PySem.W.truthy_bytes aA (mO H fO q)
 |ref p=>
  cases n
  have e':=e;rcases e' with⟨xs,hx,e'⟩|⟨xs,hx,e'⟩|⟨kvs,hx,e'⟩
  .subst e';obtain⟨its,r,pl,hz⟩:=yS hx;have hlen:=r.length;exact wpAny_truthy_list pl.isList dM (mIl H Y9)
  .subst e';obtain⟨its,r,pl,hz⟩:=j.tuple hx;have hlen:=r.length;exact truthy_tuple pl dM (mIl H Y9)
  subst e';obtain⟨hz,B,vs,r,m⟩:kvs.length<=sizeLine/\(mDj p)=false/\∃vs,hU /\s.heap.DictOf aEg p vs:=xJ p hx;have hlen:=xD r;exact wpAny_truthy_dict B m aA (mIl H AhY)
 |_=>exact(show False from e).elim
theorem Uo(ha:hX)(he:mH7 a a.pos):
 PT X a (λσ H Q=>ta σ H λx H'=>∃k,Um X.K x H' k/\oJ k):=by
 intro pins s σ H Q j h;exact mL1 (A5 (oQ ha j) λv s1 (x,H1,n,q,z)=>AhZ pins s1 σ H1 x v Q n q z)
theorem Ah_:Bt X aKL (λx y H Q=>∃i j,x= nK i/\y= nK j/\i.length+j.length<=sizeLine/\uO nK (i++j)):=by intro pins s σ H x y v u Q n z B h;obtain⟨i,j,rfl,rfl,hz,q⟩:=h;obtain⟨t,rfl⟩:=z;obtain⟨t',rfl⟩:=B;exact add_str (λt' tk=>(mE8 nK (i++j) q)) hz
theorem OK(r:qO [x]):∃u,us=[u]/\AJ x u:=by
 cases r with
 |cons j n=>cases n;exact(mEX j)
theorem Aia(r:qO aAt):∃u j,us=[u,j]/\sV x/\AJ y j:=by
 cases r with
 |cons n q=>
  cases q with
  |cons z B=>cases B;exact(3,n,z)
theorem QP(hc:fN):DW X (tT "min") (λxs H Q=>∃i j,xs=[eZ,mE j]/\sY (if j<i then j else i)):=by
 intro pins s σ H xs us Q n r h;obtain⟨i,j,rfl,q⟩:=h;obtain⟨u,z,rfl,⟨t,rfl⟩,⟨t',rfl⟩⟩:=Aia r;refine min_two_ints (n.ok.hd hc) λh' tk k=>(_,H,n.CF k,5,q);by_cases hj:j<i
 .rw[mK hj,mK hj];exact bY
 rw[mM hj,mM hj];exact bY
theorem Aib:DW X (oE "str") (λxs H Q=>∃i,xs=[eZ]/\i.natAbs.log2<1920/\uO nK (toString i)):=by intro pins s σ H xs us Q j r h;obtain⟨i,rfl,hz,q⟩:=h;obtain⟨u,rfl,t,rfl⟩:=OK r;exact PySem.P.str_of_int hz (.str _,144)
theorem Aic:DW X (tT "ord") (λxs H Q=>∃x,xs=[cX]/\x.length=1/\sY (x.cps.getD 0 0:Nat)):=by intro pins s σ H xs us Q j r h;obtain⟨x,rfl,hz,q⟩:=h;obtain⟨u,rfl,t,rfl⟩:=OK r;exact ord_of_one hz (.int _,144)
end
end L2
namespace L2
open PySem PySem.Spec PyProof.Rows
structure Lj(h:Heap)(x dx C:Addr)(mA:aN):Prop where
 obj:oT x=some aKc
 ns:h.Ns1 dx mA
 ne:dx≠x
theorem Aid{h:Heap}(n:h.Ns1 dx mA):∃od,oT dx=mB od/\∀name,aKQ=some (mA name):=by
 obtain⟨o,es,ep,j,hd,hk,_,hm⟩:=n;refine(o,j,λname=>?_);have e:=hm name;unfold nsFind findBy at e;rw[<-Array.find?_toList] at e;unfold PySem.W.lookIn;rw[hd];dsimp only;split
 .rename_i y q;rw[q] at e;exact AtB some e
 rename_i q;rw[q] at e;have a:es.toList.any (·.refKey)=false:=by rw[List.any_eq_false];intro y hy;obtain⟨z,t,B⟩:=hk y (Array.mem_toList_iff.mp hy);simp[DictEntry.refKey,B]
 rw[mAj a];exact AtB some e
theorem Lj.Ll(j:Lj h x dx C mA):∃od,PySem.W.InstAt h x aKc C (mB od)/\∀name,aKQ=some (mA name):=
 let(od,q,z):=Aid j.ns
 (od,(j.obj,29,q),z)
section
variable {prog:Program} {w:World} {A:Around} {E:bK} {s:Shared} {K:PySem.W.Frag} {x dx C f:Addr} {mA:aN} {name:Str} {v:Value}
theorem Aie(X:aEh)(j:mIm x)(hg:mFj name=true)(n:oO aKR)
 (ha:yV name=kD) (q:mA name=bJ) (z:nI PySem.W.handedIn v) (h:mHS v 1):
 wpAny bC A (getAttr cS name expr) Q E s:=by
 obtain⟨od,J,B⟩:=j.Ll;exact PySem.W.get_value X J (AvE hg).1 (PySem.W.findObj_own n ha rfl (pW B q)) z h
theorem Aif(X:aEh)(j:mIm x)(hg:mFj name=true)
 (hf:yV name=oZ mG f) (n:mDk f=true) (q:nA mA name) (h:Q (iW,[cS],) s):
 wpAny bC A (mFk cS name) Q E s:=by
 obtain⟨od,J,z⟩:=j.Ll;exact PySem.W.method_fn X J (AvE hg).1 (AvE hg).2 hf (Auu.mp n) (by show aKQ.map (·.isSome)=some false;rw[z,q];rfl) h
theorem Aig(X:aEh)(j:mIm x)
 (hs:aRs=aRt) (hp:aRu=true) (n:mMo name=kD) (q:oO aKR)
 (hw:PySem.Within mA ns) (hsz:mFl pX)
 (h:∀h',Lj h' x dx C (λy=>if y=name then bJ else mA y)->yQ dx->Q () {s with heap:=h',toks:=s.toks+2}):
 wpAny bC A (setAttr cS name v) Q E s:=by
 obtain⟨od,J,z⟩:=j.Ll;refine PySem.W.set_plain X J hs (PySem.W.osa_open (s:={s with toks:=s.toks+1}) (r:=none) X J hp n λb=>?_);obtain⟨cd,hc,B⟩:=PySem.W.any_some q;refine ArZ (Asg (ArZ (ArZ (wpAny_loadPart j.obj (mZ (PySem.W.Looks.here (s:={s with toks:=s.toks+1}) (PySem.W.looks_clsIn X hc) ?_))))));rw[B];refine Asg (a:=mB dx) (sU cG);refine wpAny_nsSet1 (s:={s with toks:=s.toks+1}) j.ns λh' D G=>?_;obtain⟨I,L,M,N,O,U⟩:=D.count (PySem.Within.cons name v hw);refine ArZ (wpAny_lookBehind N (xF O pastItsLine_dict (AsV U (qT As1))) ?_);exact Asg (h _ ((G.2 _ (Asr j.ne)).trans j.obj,D,j.ne) G)
theorem Aih(X:aEh)(hm:oO aKS)
 (hi:aKT=oZ mG f) (hf:PySem.W.typeIn K iW=mB (oE "function"))
 (h:codeAny bC (mMp mF vs) (.call iW (mF cZ::vs,kw)) (PySem.W.InitBack cZ R)
  {s with heap:=aKU}):
 codeAny bC A (.call (mF C) (vs,kw)) R s:=by
 obtain⟨j,g,d,t,os⟩:=s;exact PySem.W.make_core (PySem.W.makes_of X hm) (PySem.W.looks_findIn X hi) (λself=>PySem.W.bind_fn X self hf) aZ h
end
def Cn(f:Str)(v:V):dO -> dO
 |[]=>[(f,v,)]
 |(g,x)::r=>if g=f then(g,v,)::r else(g,x,)::Cn f v r
theorem YA(f g:Str)(v:V):∀fs:dO,aGv.lookup g=if g=f then bJ else nY g
 |[]=>by
  show List.lookup g [(f,v,)]=_;by_cases h:g=f
  .have hb:=yW h;simp only[List.lookup,hb,if_pos h]
  have hb:=vC h;simp only[List.lookup,hb,mAv h]
 |(k,x)::r=>by
  rw[show mIn x=aKV from rfl];by_cases hk:k=f
  .rw[aAu];by_cases h:g=k
   .have hb:=yW h;simp only[List.lookup,hb,if_pos (h.trans hk)]
   have hb:=vC h;simp only[List.lookup,hb,mAv (λe:g=f=>h (e.trans hk.symm))]
  rw[aAv];by_cases h:g=k
  .have hb:=yW h;simp only[List.lookup,hb,mAv (λe:g=f=>hk (h.symm.trans e))]
  have hb:=vC h;simp only[List.lookup,hb];exact YA f g v r
theorem Up(f:Str)(v:V):∀fs:dO,f∈ yO aGv.map/\∀g,g∈yO fs.map->g∈ yO aGv.map
 |[]=>(by simp[Cn],λg h=>by simp at h)
 |(k,x)::r=>by
  obtain⟨i1,j⟩:=Up f v r;rw[show mIn x=aKV from rfl];by_cases hk:k=f
  .rw[aAu];subst hk;exact(9,λg h=>by simpa using h)
  rw[aAv];refine(5,λg h=>?_)
  .rw[Asn];exact sE i1
  rw[Asn] at h⊢;rcases gO with e|e
  .exact Asz.mpr aAb
  exact sE (j g e)
theorem YB(f:Str)(v:V):∀fs:dO,aGv.length<=fs.length+1
 |[]=>by simp[Cn]
 |(k,x)::r=>by
  have j:=YB f v r;rw[show mIn x=aKV from rfl];by_cases hk:k=f
  .rw[aAu,As1,As1];omega
  rw[aAv,As1,As1];omega
theorem EJ.Uq(r:EJ bJ o):∃u,o=aM /\AJ v u:=by
 cases o with
 |none=>exact aCx.elim
 |some u=>exact(mO u rfl r)
theorem EJ.BL(r:EJ none o):o=none:=by
 cases o with
 |none=>rfl
 |some u=>exact aCx.elim
theorem Aii(r:fH):nI PySem.W.handedIn u:=by
 cases v with
 |Ax=>cases (show u=Value.none from r);rfl
 |bl b=>cases (show u=aJ8 from r);rfl
 |int i=>obtain⟨t,e⟩:=aRv;cases e;rfl
 |str x=>obtain⟨t,e⟩:=aRw;cases e;rfl
 |FG b=>obtain⟨t,e⟩:=(mFm u Value.bytes b);cases e;rfl
 |Q9 b=>obtain⟨t,e⟩:=(mFm u Value.float b);cases e;rfl
 |ref a=>cases (mFn a r);rfl
 |ty n=>cases (show u=Value.type n from r);rfl
section
variable {P:Program} {w:World} {H H':Hp} {h h':Heap} {a C dx:Addr} {fs fs':dO}
theorem QQ(Av:gC)(e:H a=hJ):∃mA,Lj h a dx C mA/\(∀f,aKd)/\ aQg /\fs.length<=1000/\H dx=some (.own a):=by obtain⟨d,z,ne,j,mA,n,r,q⟩:=(show mAm (nB C fs) from Av a _ e);exact(mA,(mO j n ne),r,q,z,d)
end
structure GV(K:PySem.W.Frag)(C:Addr):Prop where
 pg:mFj Str.empty=true
 hd:aKR=true
 po:aRu=true
 sa:aRs=aRt
theorem GV.get{K:PySem.W.Frag}(c:GV K C)(f:Str):mFj f=true:=c.pg
def AS(K:PySem.W.Frag)(C:Addr)(f:Str):Prop:=yV f=kD
theorem AS.Aij{K:PySem.W.Frag}(n:aGw):mMo f=some none:=by unfold PySem.W.takerIn;rw[show yV f=kD from n];rfl
structure QR(K:PySem.W.Frag)(C:Addr)(m:Str)(f:Addr):Prop where
 at_:yV m=some kE
 fn:mDk f=true
 kp:mDl K f=true
section
variable {X:Cx} {pins:bA} {σ:St} {H:Hp} {s:Shared} {a C dx:Addr} {fs:dO} {f:Str} {v:V} {A:Around} {E:bK}
theorem YC(j:aE)(e:H a=hJ)(c:aEi)(n:AS X.K C f)(l:nY f=bJ)
 (h:∀u s',sI H s'-> fH ->Q u s'):wpAny bM A (getAttr aI f b) Q E s:=by
 obtain⟨mA,O,r,_,_,_⟩:=mAw QQ;obtain⟨u,hu,q⟩:=EJ.Uq (v:=v) (o:=mA f) (vF l r f);exact Aie j.E3 O (c.get f) c.hd n hu (Aii q) (h u _ fO q)
theorem YD(j:aE)(e:H a=hJ)(c:aEi)(k:QR X.K C m g)(l:nA nY m)
 (h:Q (mF g,cP,) s):wpAny bM A (mFk aI m) Q E s:=by
 obtain⟨mA,O,r,_,_,_⟩:=mAw QQ;exact Aif j.E3 O (c.get m) k.at_ k.fn (EJ.BL (vF l r m)) h
theorem YE(j:aE)(e:H a=hJ)(c:aEi)(n:AS X.K C f)(B:fs.length<1000)(D:eO)
 (h:∀s',sI (nX a (nB C aKW)) s'->Q () s'):wpAny bM A (setAttr aI f u) Q E s:=by
 obtain⟨mA,O,r,G,_,I⟩:=mAw QQ;refine Aig j.E3 O c.sa c.po n.Aij c.hd G (mBH AuP) λh' J L=>h _ ?_;refine j.Ib (x:=a) (e:=dx) aGx (mI I) (mMq L.2) (let(o,_,_,e',_):=J.ns;(o,e')) ?_;refine(by rw[Ah O.ne];exact I,5,O.ne,J.obj,_,J.ns,λg=>?_,aKX)
 .have:=YB f y fs;omega
 .show EJ (aKW.lookup g) aRx;rw[YA];by_cases q:g=f
  .rw[mK q,mK q];exact D
  rw[mM q,mM q];exact r g
 by_cases q:g=f
 .rw[q];exact(Up f y fs).1
 refine(Up f y fs).2 g (G g λz=>hg ?_);show aRx=none;rw[mM q];exact z
theorem Inv.Aik(j:aE):Inv X pins σ (Aa (mFo qL H cZ) cZ aRy)
 {s with heap:=aKU}:=by
 have z:oB aGy.get? s.heap.objs.size PySem.W.emptyDict:=Asp s.heap rfl;have B:aKU.get? cZ=some aKY:=by have:=Asp aGy (o:=aKY) rfl;rwa[AsX] at this
 refine(j.DV (a:=s.heap.objs.size) (o:= .own cZ) (h':=aGy) (t':=s.toks) aKZ aF (qU z)).DV (a:=s.heap.objs.size+1) (o:= aRy) (t':=s.toks) aKZ (Avy (AsX _ _)) ?_;have ne:s.heap.objs.size≠s.heap.objs.size+1:=AsP (Avl _);refine(by rw[Ah ne,Af],aR,ne,B,aK0,(Heap.Ns1.of_empty aYi).at λo q=>pK q,λ_=>True.intro,λy hy=>uK hy)
theorem Ail(hb:attributeBase e f env (xK e)=xK e)
 (h:xE bC (xK e) (λo j=>xE bC (getAttr o f true) Q j) s):wpAny bC A (xK aK1) Q E s:=
 Attribute_any_ h (pW arm_eval_Attribute hb)
end
def FJ(K:PySem.W.Frag)(ta:TE)(f:Str):TE:=λσ H Q=>ta σ H λx H1=>∃a C dx fs v,x= aI /\H1 a=hJ /\GV K C/\ aGw /\nY f=bJ /\Q v H1
def YF(K:PySem.W.Frag)(ta tv:TE)(f:Str):TS:=λD σ H=>tv σ H λy H1=>ta σ H1 λx H2=>∃a C dx fs,x= aI /\H2 a=hJ /\GV K C/\ aGw /\fs.length<1000/\
 D.nx σ (Aa H2 a (nB C aKW))
def Aim(X:Cx)(op:Operator)(j:aD8):Prop:=
 ∀(pins:bA)(s:Shared)(σ:St)(H:Hp)(x y:V)(u v:Value)(Q:VK),aE ->sV x->AJ y v->j x y H Q->sG (inplaceOp op u v) gE s
def M9(K:PySem.W.Frag)(ta tv:TE)(j:aD8)(f:Str):TS:=λD σ H=>ta σ H λx H1=>∃a C dx fs v,x= aI /\H1 a=hJ /\GV K C/\ aGw /\nY f=bJ /\
 tv σ H1 λy H2=>j v y H2 λz n=>∃q fs',n a=mB (.Ag C q fs')/\fs'.length<1000/\sX (Aa n a (.Ag C q (Cn f z fs')))
section
variable {X:Cx} {o e value:Expr} {f:Str} {pos pos' tpos:Pos} {ta tv:TE}
theorem Ain(he:nR e ta)(hb:uP e f):PE X aK1 (FJ X.K ta f):=by intro pins s σ H Q j h;refine Ail hb (A5 aCr λu s1 (x,H1,z,B,a,C,dx,fs,v,ex,D,c,n,l,q)=>?_);subst ex;obtain rfl:tU a:=B;exact YC z D c n l λu' s2 G I=>(v,H1,G,I,q)
theorem AX(ha:nR o ta)(j:aK2)(hs:mH9 value (mFp o pos')):PS X (mFd [mFp o pos'] value) (YF X.K ta tv f):=by intro pins s σ H D z h;refine plainObj_wpAny_Assign_Attribute (A5 (oQ j z) λu s1 (y,H1,B,G,q)=>A5 (rT ha B q) λI s2 (x,H2,J,L,a,C,dx,fs,ex,M,c,n,l,N)=>?_) hs;subst ex;obtain rfl:I=Value.ref a:=L;exact YE J M c n l G λs3 O=>(σ,_,O,N)
theorem GW(ha:nR o ta)(j:aK2)(B:Aim X op G):PS X (mIa (mFp o tpos) value) (M9 X.K ta tv G f):=by intro pins s σ H D I h;refine wpAny_AugAssign_AttributeAny (A5 (oQ ha I) λJ s1 (x,H1,L,M,a,C,dx,fs,v,ex,N,c,n,l,q)=>?_);subst ex;obtain rfl:J=Value.ref a:=M;refine YC L N c n l λu s2 O U=>A5 (j pins s2 σ H1 _ O q) λY s3 (y,H2,aa,ab,ac)=>A5 (B pins s3 σ H2 v y u Y _ aa U ab ac) λae s4 (z,af,ag,ah,ai,fs',aj,ak,al)=>?_;exact YE ag aj c n ak ah λs5 am=>(σ,_,am,al)
end
section
variable {X:Cx} {pins:bA} {σ:St} {H:Hp} {s:Shared} {A:Around} {E:bK} {Q:bK} {c:Value} {b:Bool}
end
end L2
namespace L2
open PySem PySem.Spec PyProof.Rows
structure Dj(k:Nat)(A:Around):Prop where
 hd:A.handled=none
 dp:A.depth+3*k+5<recursionLimit
 un:A.units+16*k+200<cLine
theorem Dj.As(r:Dj k A)(h:j<=k):Dj j A:=(r.hd,by have:=r.dp;omega,by have:=r.un;omega)
theorem Dj.deeper(r:Dj (k+1) A)(env:Env):Dj k (A.deeper env):=
 (r.hd,by have:=r.dp;show A.depth+1+3*k+5<_;omega,by have:=r.un;show A.units+3+16*k+200<_;omega)
theorem Aio{A:Around}:aGz.depth=A.depth+1:=by
 first|rfl|simp[Around.under,Code.weight,Code.isCreation,Code.isGuard,Code.isCaller,Code.frames,Code.isFrame,guardIds]
theorem Aip{A:Around}:aGz.units=A.units+1:=by
 first|rfl|simp[Around.under,Code.cUnits,Code.frames,Code.isFrame]
theorem Dj.Ur(r:Dj (k+1) A)(C:Addr)(us:aT)(kw:aGA):Dj k aGz:=
 (r.hd,by have:=r.dp;rw[Aio];omega,by have:=r.un;rw[Aip];omega)
theorem Dj.depth(r:Dj k A):A.depth<recursionLimit:=by have:=r.dp;omega
theorem Dj.units(r:Dj k A):lG:=by have:=r.un;omega
def E5:TA:=λ_ H Q=>Q [] H
def DY(ta:TE)(j:TA):TA:=λσ H Q=>ta σ H λx H1=>j σ H1 λxs H2=>Q (x::xs) H2
section
variable {X:Cx} {e:Expr} {es:hW} {te:TE} {t:TA} {pos:Pos}
theorem Ai:PA X [] E5:=λ_ _ _ _ H Q j h=>Aua ([],H,j,.nil,h)
theorem Ad(ha:hH)(j:PA X es t)(hs:aAw:=by rfl):PA X gP (DY te t):=by intro pos pins s σ H Q n h;rw[hs];refine At7 (A5 aKJ λu s1 (x,H1,q,z,B)=>?_);exact A5 (j pos pins s1 σ H1 _ q B) λus s2 (xs,H2,D,G,I)=>(x::xs,H2,D,rR z G,I)
def QS(t:TA):TE:=λσ H Q=>t σ H λxs H1=>xs.length<=sizeLine/\∀p,H1 p=none->mBI H1 iY
def Us(t:TA):TE:=λσ H Q=>t σ H λxs H1=>xs.length<=sizeLine/\∀p,H1 p=none->mAx H1 xs
theorem CV{j}(h:PA X es t):PE X (mH8 j) (QS t):=by intro pins s σ H Q n hq;refine wpAny_Tuple_spliced (A5 (mMr n) λus s1 (xs,H1,B,r,z,q)=>aRz);refine(aRA,Aa H1 s1.heap.objs.size iY,mMs B.DV,2,q _ aK3);exact(z,us,r,(_,eQ,30))
theorem By(h:PA X es t):PE X (.List es pos) (Us t):=by intro pins s σ H Q j hq;refine wpAny_List_spliced (A5 (mMr j) λus s1 (xs,H1,n,r,z,q)=>aRz);refine(aRA,nE H1 s1.heap.objs.size xs,mMs n.DV,2,q _ (n.Av.BC aF));exact(z,us,60,r,eQ)
end
abbrev Sp:=aK ->Hp->VK->XK->Prop
abbrev Kf:=jZ ->Hp->Shared->XK->Value->Shared->Prop
structure Lm(P:Program)(w:World)(K:PySem.W.Frag)(mg:aN)(base:Heap)(A:Around)(outer:jZ)(s:Shared)(H:Hp):Prop where
 frames:A.frames=some outer
 mod:Mod K mg base
 bs:∀b o,base.get? b=aH ->nU b=aH /\H b=none
 Jj:base.objs.size<=s.heap.objs.size
 GS:s.heap.FunFrames base outer
 Lg:∀b∈Hu outer,H b=none
 Av:Cm P w H s.heap
 DM:mC4 s.gens
def CE(outer:jZ)(P:Program)(w:World)(H:Hp)(s:Shared)(Q:VK)(u:Value)(s':Shared):Prop:=
 ∃v H',s'.os=s.os/\mC4 s'.gens/\mE5 (Hu outer) [] s'.heap/\Cm P w H' s'.heap/\ fH /\oJ v
def CR(CX:Kf)(outer:jZ)(P:Program)(w:World)(H:Hp)(s:Shared)(Q:VK)(E:XK)(r:Result)(s':Shared):Prop:=
 match r with
 | .ok (.ret u)=>CE outer P w H s Q u s'
 | .ok _=>False
 | .error e=>mIo e s'
structure A4(P:Program)(w:World)(K:PySem.W.Frag)(mg:aN)(base:Heap)(CX:Kf)(k:Nat)(f:Addr)(fd:FuncData)(ps:bZ)(sp:Sp):Prop where
 len:∀vs H Q E,mBJ H->vs.length=ps.length
 Ik:∀(A:Around)(outer:jZ)(s:Shared)(H:Hp)(args:Args)(us:aT)(vs:aK)(Q:VK)(E:XK),Dj k A->mIp H->BindsTo s fd args aEj ->qO vs->mBJ H->
  codeAny aAp A (.call iW args) (CR CX outer P w H s Q E) s
theorem A4.As{K:PySem.W.Frag}(F:A4 P w K mg base CX j f fd ps sp)(h:j<=k):
 A4 P w K mg base CX k f fd ps sp:=(F.len,λA outer s H args us vs Q E q=>F.Ik A outer s H args us vs Q E (q.As h))
theorem Lm.Ur{K:PySem.W.Frag}(e:mIp H)(C:Addr)(us:aT)(kw:aGA):
 Lm P w K mg base aGz outer s H:=(by first|exact e.frames|(simpa[Around.under,Code.envs,Code.isFrame,pushEnvs] using e.frames),e.mod,e.bs,e.Jj,e.GS,e.Lg,e.Av,e.DM)
section
variable {X:Cx} {pins:bA} {σ:St} {H:Hp} {s s':Shared}
theorem Inv.YG(j:aE):Lm X.prog X.w X.K X.mg X.base X.A X.stack s H:=
 (j.ok.frames,j.ok.mod,j.bs,mE3 j.sz,j.stack,j.Yi,j.Av,j.DM)
theorem Inv.Dt(j:aE)(h:CE X.stack X.prog X.w H s Q u s'):EP X pins σ Q u s':=by obtain⟨v,H',os,DM,un,Av,r,q⟩:=h;obtain⟨B,g,d,t,I⟩:=s';obtain rfl:I=s.os:=os;exact(v,H',j.call (h':=B) (g':=g) (d':=d) (t':=t) (ch:=[]) un Av DM (λb z=>nL z aC),r,q)
end
def QT(sp:Sp)(dvs:aK)(E:XK)(t:TA):TE:=λσ H Q=>t σ H λvs H1=>sp aBk H1 Q E
def OL(C:Addr)(m:Str)(sp:Sp)(dvs:aK)(E:XK)(ta:TE)(t:TA):TE:=λσ H Q=>ta σ H λx H1=>∃a dx fs,x= aI /\H1 a=hJ /\nY m=none/\
 t σ H1 λvs H2=>sp (x::aBk) H2 Q E
def QU(C:Addr)(sp:Sp)(dvs:aK)(E:XK)(t:TA):TE:=λσ H Q=>t σ H λvs H1=>∀x dx,H1 x=none->H1 dx=none->dx≠x->
 sp (cS::aBk) (mBK H1 C) aRB E
def GX(K:PySem.W.Frag)(fd:FuncData)(ps:bZ)(ds:aT):Prop:=
 ∀(s:Shared)(us:aT),aEh -> aEk.length=ps.length->BindsTo s fd aK4 (ps.zip aEk)
theorem GX.all{K:PySem.W.Frag}(h:∀us:aT,us.length=ps.length->mIq fd=pure aEj):GX K fd ps []:=λs us _ j=>by rw[Aum] at j⊢;exact .of_eq (h us j)
def Kg(CX:Kf)(X:Cx)(E:XK):Prop:=∀(pins:bA)(σ:St)(H:Hp)(s:Shared)(e:Value)(s':Shared),aE ->CX X.stack H s E e s'->X.xe e s'
section
variable {X:Cx} {CX:Kf} {k:Nat} {f C:Addr} {fd:FuncData} {ps:bZ} {sp:Sp} {dvs:aK} {ds:aT} {E:XK} {x m:Str} {p pos apos:Pos} {e o:Expr} {es:hW} {ta:TE} {t:TA}
theorem QV(F:aBl)(j:aEl)(hb:aBm)(hd:aBn)(hx:aBo)
 (n:aE) (r:qO vs) (h:sp aBk H Q E):wpAny bM X.A (call iW us) gE X.xe s:=by
 have q:=mDm hd;refine wpAny_call (Awm (F.Ik X.A X.stack s H aK4 aEk aBk Q E j n.YG (hb s us n.E3 (by rw[<-q.length];exact rH F.len h)) q h) λr s' hq=>?_)
 cases r with
 |error e=>exact hx pins σ H s e s' n hq
 |ok fl=>
  cases fl with
  |ret u=>exact n.Dt hq
  |next=>exact sH hq
  |brk=>exact sH hq
  |cont=>exact sH hq
theorem Bb(F:aBl)(j:aEl)(hg:aAn)(hm:X.mg x=kE)(hk:mDn X.K)(hb:aBm)(hd:aBn)(hx:aBo)
 (ha:aBp) (n:uM x:=by decide) (he:aAw:=by rfl) (z:aEm:=by rfl):
 PE X aGB (QT sp dvs E t):=by
 intro pins s σ H Q B h;refine mIr B;refine mMt hk;exact QV F j hb hd hx D r q
theorem YH(F:aBl)(j:aEl)(hg:aAn)(hm:X.mg x=kE)(hk:mDn X.K)(hb:aBm)(hd:aBn)(hx:aBo)
 (n:uM x:=by decide):PE X (.Call (.Name x p) [] [] pos) (QT sp dvs E E5):=by
 intro pins s σ H Q q h;refine mIr q;exact PySem.W.callWith_K0 q.E3 hk (QV (us:=[]) F j hb hd hx q .nil h)
theorem Bx(he:nR o ta)(c:aEi)(hm:QR X.K C m f)(F:aBl)(j:aEl)(hb:aBm)(hd:aBn)(hx:aBo)(ha:aBp)
 (n:aAw:=by rfl) (z:aEm:=by rfl)
 (B:oU (mFq gP)=(do
  let D<-eval o X.env
  standAt apos.atName
  let(f,first,)<-holding [D] (mFk D m)
  callWith pos f first (xL gP) (mFr pos)):=by rfl):
 PE X (mFq gP) (OL C m sp dvs E ta t):=by
 intro pins s σ H Q G h;refine mMu (A5 (oQ he G) λu s1 (x,H1,I,J,a,dx,fs,ex,L,l,q)=>?_) B;subst ex;obtain rfl:tU a:=J;refine YD I L c hm l ?_;refine AvP (first:=cP) (h₀:=X.base) G.ok.mod.O5 hm.kp (A5 (ha pos pins s1 σ H1 _ I q) λus s2 (vs,H2,M,r,N)=>(oH M.E3)) n z;exact QV (us:= aI::us) (vs:= aI::vs) F j hb hd hx M (rR rfl r) N
theorem GY(he:nR o ta)(c:aEi)(hm:QR X.K C m f)(F:aBl)(j:aEl)(hb:aBm)(hd:aBn)(hx:aBo)
 (n:oU (mFq [])=(do
  let z<-eval o X.env
  standAt apos.atName
  let(f,first,)<-holding [z] (mFk z m)
  callWith pos f first (xL []) (mFr pos)):=by rfl):
 PE X (mFq []) (OL C m sp dvs E ta E5):=by
 intro pins s σ H Q B h;refine mMu (A5 (oQ he B) λu s1 (x,H1,D,G,a,dx,fs,ex,I,l,q)=>?_) n;subst ex;obtain rfl:tU a:=G;refine YD D I c hm l ?_;exact PySem.W.callWith_K0 (first:=cP) D.E3 hm.kp (QV (us:=cP) (vs:=cP) F j hb hd hx D (wC rfl) q)
structure Mk(K:PySem.W.Frag)(C f:Addr):Prop where
 Aiq:aKS=true
 Air:aKT=some kE
 fn:mDk f=true
 kp:mDl K C=true
theorem Ais(M:Mk X.K C f)(F:aBl)(j:Dj (k+1) X.A)(hb:aBm)(hd:aBn)
 (hx:aBo) (n:aE) (r:qO vs)
 (h:∀x dx,H x=none->H dx=none->dx≠x->sp (cS::aBk) (mBK H C) aRB E):
 wpAny bM X.A (call (mF C) us) gE X.xe s:=by
 have hq:=h cZ s.heap.objs.size (n.Av.BC iA) (n.Av.BC aF) (AsP (Avl _));have q:=Inv.Aik (C:=C) n;have z:AB (nC cZ::aBk) (rE cZ::aEk):= rR rfl (mDm hd);have B:(rE cZ::us++ds).length=ps.length:=by have e:=z.length;rw[rH F.len hq] at e;exact e.symm
 refine wpAny_call (Aih (f:=f) n.E3 M.Aiq M.Air (Auu.mp M.fn) (Awm (F.Ik _ X.stack _ _ (rE cZ::us,[]) (rE cZ::aEk) _ _ E (j.Ur C us [])
  (q.YG.Ur C us []) (hb _ (rE cZ::us) q.E3 B) z hq) λr s' D=>?_))
 cases r with
 |error e=>exact hx pins σ _ _ e s' q D
 |ok fl=>
  cases fl with
  |ret u=>
   obtain⟨v,H',G,I,ev,J⟩:=q.Dt D;subst ev;exact(I,(nC cZ,H',G,2,J))
  |next=>exact sH D
  |brk=>exact sH D
  |cont=>exact sH D
theorem Dc(M:Mk X.K C f)(F:aBl)(j:Dj (k+1) X.A)(hg:aAn)(hm:X.mg x=mG C)(hb:aBm)(hd:aBn)(hx:aBo)
 (ha:aBp) (n:uM x:=by decide) (he:aAw:=by rfl) (z:aEm:=by rfl):
 PE X aGB (QU C sp dvs E t):=by
 intro pins s σ H Q B h;refine mIr B;refine mMt M.kp;exact Ais M F j hb hd hx D r q
end
section
variable {X:Cx} {CX:Kf} {k:Nat} {f C:Addr} {fd:FuncData} {ps ks:bZ} {sp:Sp} {E:XK} {x m:Str} {p pos apos kpos:Pos} {e o:Expr} {es:hW} {kws:aEn} {te ta:TE} {t tk:TA} {nm:oG Str}
variable {g:aT -> aT -> aT} {gV:aK -> aK -> aK}
end
structure AD(N P:bZ)(sc:Scope):Prop where
 kind:sc.kind= .function
 co:sc.isCoroutine=false
 gen:sc.isGenerator=false
 nd:N.Nodup
 pre:N.take P.length=P
 YI:∀x∈P,uL x=lB \/uL x=some .cell
 Aiu:∀y∈sc.names,y.2≠ .free
theorem YJ{kindOf:aGC}:∀{Kh:aGA}{m:aN},aRC ->bindL kindOf Kh m x=m x
 |[],_,_=>rfl
 |(n,v)::r,m,h=>by
  unfold bindL;rw[YJ λw hw=>pH h w hw];split
  .have:x≠n:=(by rintro rfl;exact h v AsG);simp[this]
  rfl
theorem YK{kindOf:aGC}:∀{Kh:aGA}{m:aN},aRC ->bindC kindOf Kh m x=m x
 |[],_,_=>rfl
 |(n,v)::r,m,h=>by
  unfold bindC;rw[YK λw hw=>pH h w hw];split
  .rfl
  have:x≠n:=(by rintro rfl;exact h v AsG);simp[this]
theorem YL{kindOf:aGC}:∀{P:bZ}{vs:aT}{i:Nat}{m:aN},P.Nodup->P[i]? =aY ->vs[i]? =bJ ->kindOf x=lB ->
 bindL kindOf (P.zip vs) m x=bJ
 |[],_,_,_,_,h,_,_=>by simp at h
 |_::_,[],_,_,_,_,h,_=>by simp at h
 |p::P,w::vs,0,m,nd,h1,h2,hk=>by
  simp at h1 h2;subst h1;subst h2;show mMv bindL=_;unfold bindL;rw[YJ λv j=>(AtY.mp nd).1 (Avz j).1,aAu];simp
 |p::P,w::vs,i+1,m,nd,h1,h2,hk=>by
  unfold bindL;exact mMw YL
theorem YM{kindOf:aGC}:∀{P:bZ}{vs:aT}{i:Nat}{m:aN},P.Nodup->P[i]? =aY ->vs[i]? =bJ ->kindOf x≠ lB ->
 bindC kindOf (P.zip vs) m x=bJ
 |[],_,_,_,_,h,_,_=>by simp at h
 |_::_,[],_,_,_,_,h,_=>by simp at h
 |p::P,w::vs,0,m,nd,h1,h2,hk=>by
  simp at h1 h2;subst h1;subst h2;show mMv bindC=_;unfold bindC;rw[YK λv j=>(AtY.mp nd).1 (Avz j).1,aAv];simp
 |p::P,w::vs,i+1,m,nd,h1,h2,hk=>by
  unfold bindC;exact mMw YM
def start(N:bZ)(vs:aK):St:=vs.map some++List.replicate (N.length - vs.length) none
def MA(CX:Kf)(P:Program)(w:World)(K:PySem.W.Frag)(mg:aN)(base:Heap)(N:bZ)(qual:Str)(scope:Scope)(f:Addr)(cd:Value)(A:Around)(outer:jZ)(s:Shared)(H:Hp)(E:XK):Cx where
 prog:=P
 w:=w
 K:=K
 mg:=mg
 base:=base
 A:=A.deeper (mBL cd)
 N:=N
 EK:=s
 Le:=H
 env:=envOfC qual scope s.heap.objs.size f cd
 outer:=outer
 stack:=mBL cd::outer
 ex:=[]
 calm:=true
 fn:=λ_=>true
 pn:=[]
 xe:=λe s'=>wpAny aAp (A.deeper (mBL cd)) (leaving (mBL cd) e) (λ_ j=>mIo e j) (λe' j=>mIo e' j) s'
theorem YN{sc:Scope}(h:uL x=aBe):∃c,(cellsFrom n sc.names []).lookup x=some c:=by exact Awn.mp (PySem.W.cellsFrom_some sc.names n [] jY)
theorem Aiv{K:PySem.W.Frag}
 (S:AD N ps scope) (hd:lH) (j:mIp H) (B:vs.length=ps.length) (r:qO vs)
 (x:InCallC s s.heap.objs.size (mMx bindL) (mIs []) (mMx bindC) s1):
 Inv (mDo cd) [] aEo H s1:=by
 have D:ps.length<=N.length:=(by have:=yJ S.pre;rw[AsS] at this;omega);obtain⟨h1,tk,rfl,hk⟩:=x.done;have G:∀b:Addr,b∉(mDo cd).ex:=λb z=>mFs b aP z;refine((j.mod,S.kind,29,aF,λy z c h1 h2=>?_,hQ,λy c _ h=>?_,λ_=>hd,Around.frames_deeper j.frames,mI aEa,aRD,j.bs,j.Jj,λb _ _=>G b,aRD,j.GS,j.Lg),2,j.DM,Un.CF hk,(_,x.toInCall.ns,λi y v h1 h2 I=>?_),λy c h=>(_,x.cell y c h),aBq,λy c h=>?_,λp hp=>mFs p bA hp,j.Av.CF hk,5)
 .exact name_of_addr x.apart (AsQ h1) (AsQ h2)
 .have hy:=hy;rcases hy with hy|hy
  .exact YN hy
  exact uK (S.Aiu _ (AsQ hy))
 .exact aRE
 .have hi:i<vs.length:=by
   unfold start at h2;by_cases hi:i<vs.length
   .exact hi
   rw[Aso (mR hi)] at h2;rw[List.getElem?_replicate] at h2;split at h2<;>cases h2
  have ha:pC vs[i]? v:=by
   unfold start at h2;rw[Ask (mR hi),ArY] at h2
   cases e:vs[i]? with
   |none=>rw[e] at h2;cases h2
   |some a=>rw[e] at h2;cases h2;rfl
  obtain⟨u,hu,J⟩:=r.get ha;have hp:pC ps[i]? y:=by rw[<-S.pre,Awo aA];exact h1
  have L:ps.Nodup:=(vF S.pre S.nd.sublist aRF);refine(rF u J);rcases S.YI y (Asl hp) with k|k
  .exact mH (k,YL L hp hu k)
  obtain⟨c,e⟩:=YN (n:=s.heap.objs.size+1) k;refine mI (mH k,c,e,5);have q:=x.cell y c e;rw[YM L hp hu (by show wD y≠_;rw[k];decide)] at q;exact q
 .exact j.Av.BC aRE
 unfold start;show _=N.length;rw[Asi,ArX,AuB];omega
theorem Aiw{K:PySem.W.Frag}{j kV doc pm z ct B:Value}
 (D:rS f=mFt B aRG aa) (G:mFu z=true) (S:AD N ps scope)
 (len:aRH)
 (ab:∀(A:Around)(outer:jZ)(s:Shared)(H:Hp)(vs:aK)(Q:VK)(E:XK),Dj k (A.deeper (mBL z))->mBJ H->
  ∃t,Go (mDo z) body t/\t {nx:=λ_ H'=>cU,rt:=Q} aEo H):
 A4 P w K mg base CX (k+1) f aRG ps sp:=by
 refine(len,λA outer s H args us vs Q E I L hb r M=>?_);have O:K.In s.heap:=L.mod.O5.keeps λb o e=>(pQ L.bs).1;have ac:∀y∈ aEj,wD y.1=lB \/(wD y.1=aBe /\((mIs []).lookup y.1).isSome=true):=λ(n,v) hy=>by
  rcases S.YI n (Avz hy).1 with q|q
  .exact iS
  exact mI (q,rW PySem.W.cellsFrom_some iS)
 refine codeAny_call_function I.depth (mC O D) rfl S.co S.gen rfl (PySem.W.codeRec_of O G) (hb _ _ _ _ ?_);refine wpAny_newFunctionEnv_cells S.kind ac λenv he s1 x=>?_;subst he;refine((L.mod.nolimit.keeps λb o e=>(pQ L.bs).1).keeps x.toInCall.keep,codeAny_func ?_);obtain⟨t,ae,hq⟩:=ab A outer s H vs Q E (I.deeper _) M;have af:Inv (mDo z) [] aEo H s1:=Aiv S I.hd L (rH len M) r x;refine AtL (ae [] s1 aEo H _ af hq) (λfl s' hs=>?_) λe s' hs=>hs;have fin:∀{U:St}{H':Hp}{v:V}{u:Value},Inv (mDo z) [] U H' s'-> fH ->oJ v->CE outer P w H s Q u s':=
  λ{U H' v u}J Y q=>(v,H',J.os,J.DM,J.base,J.Av,Y,q)
 cases fl with
 |ret u=>
  obtain⟨v,U,H',J,Y,q⟩:=hs;exact fin J Y q
 |next=>
  obtain⟨U,H',J,q⟩:=hs;exact fin (v:=V.Ax) (u:=Value.none) J rfl q
 |brk=>
  obtain⟨_,_,_,q⟩:=hs;exact sH q
 |cont=>
  obtain⟨_,_,_,q⟩:=hs;exact sH q
end L2
namespace L2
open PySem PySem.Spec PyProof.Rows
section
variable {X:Cx} {x:Str} {p pos:Pos} {e:Expr} {es:hW} {t:TA} {id T:String} {r:aAs}
def Ut(r:aAs)(t:TA):TE:=λσ H Q=>t σ H λvs H1=>r vs H1 Q
theorem Bh(hc:DW X (tT id) r)(hg:aAn)(hm:tS x)(j:mE9 x=aK5)(ha:aBp)(n:mC7 x:=by decide)(q:uM x:=by decide)
 (he:aAw:=by rfl) (z:aEm:=by rfl):PE X aGB (Ut r t):=by
 intro pins s σ H Q B h;refine aRI;exact PyProof.Rows.callWith_builtin1 aRJ he z
theorem QW(hc:DW X (oE T) r)(hg:aAn)(hm:tS x)(j:mE9 x=mB (oE T))(ha:aBp)(n:mC7 x:=by decide)(q:uM x:=by decide)
 (he:aAw:=by rfl) (z:aEm:=by rfl):PE X aGB (Ut r t):=by
 intro pins s σ H Q B h;refine aRI;exact AsO aRJ he z
end
end L2
namespace HT
open PySem PyProof.Rows
section
open PySem.SeqAt
open PySem.AutoSeq1 (wpAny_loadPart')
open PySem.MeetsSeq PySem.MeetsSeq2 PySem.MeetsSeq3
end
section
variable {prog:Program} {w:World} {A:Around} {E:bK} {s:Shared}
def AK(n d:Nat):dP ->Nat
 |none=>d
 |some v=>if v<0 then(v+(n:Int)).toNat else min v.toNat n
theorem Ki(n d:Nat):AK n d none=d:=rfl
theorem Hz(n d k:Nat):AK n d (mB (k:Int))=min k n:=by show(if(k:Int)<0 then((k:Int)+(n:Int)).toNat else min (k:Int).toNat n)=min k n;rw[fF,AtN]
theorem Uu(n d:Nat)(hd:d<=n)(o:dP):AK n d o<=n:=by
 cases o with
 |none=>exact hd
 |some v=>
  show aK6 <=n;by_cases j:v<0
  .rw[mK j];omega
  rw[mM j];exact Nat.min_le_right _ _
theorem YO(v:Int)(n d:Nat):aRK=((AK n d bJ:Nat):Int):=by
 show aRK=((aK6:Nat):Int);by_cases j:v<0
 .simp only[if_pos j];omega
 simp only[mAv j];omega
theorem Aix(lo hi:dP)(n:Nat):Builtin.Slice.sliceAdjust lo hi 1 (n:Int)=(((AK n 0 lo:Nat):Int),((AK n n hi:Nat):Int),):=by
 have h1:¬((1:Int)<0):=aA;unfold Builtin.Slice.sliceAdjust;simp only[h1,if_false];refine Prod.ext ?_ ?_
 .cases lo with
  |none=>rfl
  |some v=>exact YO v n 0
 cases hi with
 |none=>rfl
 |some v=>exact YO v n n
theorem Aiy(i j:Nat):mIt (i:Int) (j:Int)=j - i:=by unfold Builtin.Slice.slicePlaces;have h1:(1:Int)>0:=aA;simp;split<;>omega
theorem YQ(p:xM v o)(h:Q o s):wpAny bC A (Builtin.Slice.slicePartIndex v) Q E s:=by
 cases p with
 |none=>exact slicePart_none h
 |int i t=>exact slicePart_int h
theorem Aiz{sl:Addr}{j q:Value}{lo hi:dP}{n:Nat}{Q:Int×Int×Nat->Shared->Prop}(hs:mIu j q)(pl:xM j lo)(pu:xM q hi)
 (h:Q (((AK n 0 lo:Nat):Int),1,AK n n hi - AK n 0 lo,) s):wpAny bC A (Builtin.Slice.sliceApplied (mF sl) (pure (n:Int))) Q E s:=by
 obtain⟨os,z,B,D⟩:=id hs;refine ArZ (ArZ (Ats z D (x:=j) rfl (mZ (Ats z D (x:=q) rfl (mZ (mIv z D))))));refine mZ (slicePart_none ?_);rw[bS];refine mZ (YQ pl (mZ (YQ pu (mZ cO))));show qN (match Builtin.Slice.sliceAdjust lo hi 1 (n:Int) with|(lo,hi)=>pure (lo,(1:Int),mIt lo hi,)) s;rw[Aix lo hi n];show qN (pure (((AK n 0 lo:Nat):Int),(1:Int),mIt ((AK n 0 lo:Nat):Int) ((AK n n hi:Nat):Int),)) s;rw[Aiy];exact Asg h
theorem Ai0(xs:jX)(i k:Nat):((oP k).filterMap λ(m:Nat)=>xs[aK7.toNat]?).toArray=((xs.toList.drop i).take k).toArray:=by
 have e:(λ(m:Nat)=>xs[aK7.toNat]?)=λm=>xs[i+m]? :=by funext m;have:aK7.toNat=i+m:=aA;rw[this]
 rw[e];have:=pick_run xs i k;rw[List.filterMap_map] at this;have j:((λx=>xs[x]?)∘λx=>i+x)=λm=>xs[i+m]? :=rfl;rw[j] at this;rw[this]
theorem Ai1{lo hi:dP}(j:tQ IsTup t items)(hs:mIu n z)(pl:xM n lo)(pu:xM z hi)
 (hw:¬(mMy AK items.size))
 (h:Q eP {s with heap:=s.heap.push {cls:= hB,data:= aRL}})
 (hsz:pX items.size):wpAny bC A (getItem (mF t) (mF sl)) Q E s:=by
 have B:sizeOk aRL:=by show aRM.toArray.size<=sizeLine;rw[As2,AsS,AtH,Aug];omega
 have hj:AK items.size items.size hi<=items.size:=mV Uu aF hi;obtain⟨os,D,G,I⟩:=id hs;unfold getItem
 try with_reducible refine Au0 ?_
 first|refine mZ cO|skip
 refine pO wpAny_sequenceKey j.typeIs bB;refine ArZ (Atu (name:=mAy "__getitem__") j.typeIs Auh
  (Atf Auh j.typeIs entry_tuple_getitem ?_ (args_tuple_getitem _ _)))
 show mLK (mF t);refine vZ tupleItemsOf_ j;refine vZ wpAny_typeOf (mO os D G);rw[mK bB];refine mZ (Aiz hs pl pu ?_);have J:¬(oO aRN):=by intro q;rw[AsF,AsF] at q;have L:((AK items.size 0 lo:Nat):Int)=0:=mEW q.1.1;have M:AK items.size items.size hi - AK items.size 0 lo=items.size:=mEW q.2;exact hw aRO
 show qN (if aRN=true then _ else _) s;rw[mM J,Ai0]
 first
  |exact mFv aGD
  |exact mFv (sU aGD)
  |exact yN mFv aGD
  |exact mZ (mFv aGD)
end
end HT
namespace L2
open PySem PySem.Spec PyProof.Rows
abbrev TO:=St->Hp->(mC6 dP)->Prop
def PO(X:Cx)(e:oG Expr)(t:TO):Prop:=
 ∀(pins:bA)(s:Shared)(σ:St)(H:Hp)(Q:mC6 dP),aE -> aBg ->
  wpAny bM X.A (evalPart e X.env) (λu s'=>∃o H',aBf /\xM u o/\oJ o) X.xe s
def Uv:TO:=λ_ H Q=>Q none H
def Uw(t:TE):TO:=λσ H Q=>t σ H λx H1=>∃i,x= eZ /\Q (mB i) H1
section
variable {X:Cx} {e:Expr} {te:TE} {lo hi:oG Expr} {tl th:TO} {pos p2:Pos}
theorem Gu:PO X none Uv:=by intro pins s σ H Q j h;rw[evalPart_none];exact Asg (58,H,j,.none,h)
theorem EZ(h:hH):PO X (mB e) (Uw te):=by intro pins s σ H Q j hw;rw[evalPart_some];refine A5 (mC9 _) λu s1 (x,H1,n,z,B)=>?_;obtain⟨i,rfl,q⟩:=B;obtain⟨t,rfl⟩:=z;exact(mB i,H1,n,aDZ,q)
def MB(X:Cx)(r:mDp Int):Prop:=
 ∀(pins:bA)(s:Shared)(σ:St)(H:Hp)(x:V)(v j n:Value)(lo hi:dP)(sl:Addr)(Q:VK),aE -> hY ->mIu j n->xM j lo->xM n hi->r x lo hi H Q->
  ∃T id,aRP=pure aK5 /\s.TypeIs v T/\sG (getItem v (mF sl)) gE s
def Ux(r:mDp Int)(te:TE)(tl th:TO):TE:=λσ H Q=>te σ H λx H1=>tl σ H1 λl H2=>th σ H2 λu j=>r x l u j Q
theorem F4(j:MB X r)(he:hH)(n:PO X lo tl)(hu:PO X hi th):PE X (mFw e (.Slice lo hi none p2)) (Ux r te tl th):=by intro pins s σ H Q z h;refine Subscript_ (mIw he);refine wpAny_Slice (A5 (rT n B G) λI s2 (l,H2,J,pl,L)=>A5 (mIx hu J) λM s3 (u,N,O,pu,U)=>?_);rw[evalPart_none];refine cO;obtain⟨T,id,Y,aa,hg⟩:=j pins {s3 with heap:=s3.heap.push {cls:= oE "slice",data:= mAl #[I,M,.none]}} σ N x v I M l u s3.heap.objs.size Q (O.CF (t':=s3.toks) λb ab q=>pK q) D (Heap.IsSliceOf.new ..) pl pu U;exact tail_any (ops:=[mF s3.heap.objs.size,v]) aa Y hg aGE
def Dx(xs:aK)(lo hi:dP):List V:=(mBM (HT.AK xs.length 0 lo)).take (mBN mFx HT.AK)
theorem YR(xs:aK)(lo hi:dP):mFy aEp.length:=by unfold Dx;rw[AsS,AtH];omega
def Uy(K:PySem.W.Frag):mDp Int:=λx lo hi H Q=>∃a xs,x= aI /\wA H/\
 ¬(mBN mMy HT.AK)/\∀p,H p=none->mBI H (.Al aEp)
theorem Ai2:MB X (Uy X.K):=by
 intro pins s σ H x v j n lo hi sl Q z B hs pl pu h;obtain⟨a,xs,rfl,hx,hw,q⟩:=h
 cases B
 obtain⟨its,r,D,hz⟩:=z.tuple hx;have hlen:its.toArray.size=xs.length:=(oD As2 r.length.symm);refine("tuple",_,Auh.lookup,D.typeIs,5);refine HT.Ai1 D hs pl pu (oD hlen hw) ?_ (oD hlen hz);rw[hlen];refine(eP,_,z.DV (t':=s.toks) (o:= .Al aEp) aRQ aF ?_,2,q _ aK8);exact(aRR,_,mBN mFz r.drop,IsTup.new _ _)
end
end L2
namespace L2
open PySem PySem.Spec PyProof.Rows
def FK(n:Nat)(i:Int):Option Nat:=if 0<=i then(if i<n then mB i.toNat else none) else if -(n:Int)<=i then mB (i+n).toNat else none
def BX{α:Type}(xs:cL)(i:Int):Option α:=(mBO FK i).bind λj=>xs[j]?
theorem YS(h:FK n i=mB j):seqIndex? i n=mB j/\j<n/\ -(n:Int)<=i/\i<n:=by
 unfold FK at h;by_cases h0:0<=i
 .rw[mK h0] at h;by_cases h1:i<n
  .rw[mK h1] at h;have e:=Ase h;exact(by rw[mIy h1,e],4,4,h1)
  rw[mM h1] at h;cases h
 rw[mM h0] at h;by_cases h1:-(n:Int)<=i
 .rw[mK h1] at h;have e:=Ase h;exact(by rw[mIz h1,e],4,h1,4)
 rw[mM h1] at h;cases h
theorem Uz(h:BX xs i=bJ):∃j,mBN seqIndex? i=mB j/\xs[j]? =bJ /\j<xs.length/\ -(xs.length:Int)<=i/\i<xs.length:=by
 unfold BX at h
 cases e:mBO FK i with
 |none=>rw[e] at h;cases h
 |some j=>
  rw[e] at h;obtain⟨h1,h2,n,h4⟩:=YS e;exact(j,h1,h,h2,n,h4)
theorem AZ{xs:cL}{j:Nat}{v:α}(h:xs[j]? =bJ):BX xs (j:Int)=some v:=by
 have hj:=(nS h).1;have e:mBO FK (j:Int)=some j:=by unfold FK;rw[gZ,gZ];simp
 unfold BX;rw[e];exact h
theorem U0(xs:cL)(v:α):mDq aK9 1 v:=by
 have j:aK9.length=xs.length+1:=aC;have e:FK aK9.length (-1)=some xs.length:=by unfold FK;rw[j,bS,gZ];congr 1;omega
 unfold BX;rw[e];simp
def Ai3(b:Expr):Prop:=∀o i,mIA b o i=mIB o i
def MC(X:Cx)(r:R2):Prop:=
 ∀(value slice:Expr)(pins:bA)(s:Shared)(σ:St)(H:Hp)(x y:V)(v u:Value)(Q:VK),aE -> hY -> eO ->r x y H Q->
  subscripted slice false v u=mIB v u->sG (subscriptTail value slice v u) gE s
def EM(X:Cx)(id:String)(r:hK):Prop:=
 ∀(pins:bA)(s:Shared)(σ:St)(H:Hp)(x:V)(xs:aK)(v:Value)(us:aT)(Q:VK),aE -> hY -> fG ->r x xs H Q->
  wpAny bM X.A aRS gE X.xe s
section
variable {X:Cx} {a b:Expr} {ta tb:TE} {pos:Pos}
theorem AF(j:MC X r)(ha:hX)(hb:aAo)(hs:Ai3 b):PE X (mFw a b) aGs:=by intro pins s σ H Q n h;exact Subscript_ (Uj ha hb n h λv u s2 x y H2 z B D q=>j a b pins s2 σ H2 x y v u Q z B D q (hs _ _))
def QX(K:PySem.W.Frag):R2:=λx y H Q=>∃p xs i v,x= aS /\y= eZ /\ aEf /\BX xs i=bJ /\ lD
def HA(K:PySem.W.Frag):R2:=λx y H Q=>∃p xs i v,x= aS /\y= eZ /\A8 K H p xs/\BX xs i=bJ /\ lD
def Ai4:R2:=λx y H Q=>∃z i c,x= nK z/\y= eZ /\z.length<=sizeLine/\BX z.cps.toList i=bT /\uO wE c
theorem Ln:MC X (QX X.K):=by
 intro value slice pins s σ H x y v u Q n B D h hs;obtain⟨p,xs,i,z,rfl,rfl,hq,he,q⟩:=h
 cases B
 obtain⟨t,rfl⟩:=D;obtain⟨its,r,pl,hz⟩:=n.list hq;obtain⟨j,h1,h2,G,h4,I⟩:=Uz he;obtain⟨w,J,L⟩:=r.get h2;have M:=r.length;have N:=Ke;have fin:EP X pins σ Q w s:=(z,H,n,L,q);by_cases h0:0<=i
 .have hj:i.toNat=j:=by
   rw[mIy I] at h1;exact Ase h1
  exact item_listR pl.isList h0 aA aRT fin hs
 have hj:mMz i:=by rw[mIz h4] at h1;rw[As2,<-M];exact Ase h1
 exact subscriptTail_builtinR (x:=w) pl.isList.typeIs slot_list_getitem.lookup
  (wpAny_getItem_list_neg (Q:=λr s'=>r=w/\ aRU) pl.isList aA aRV aA aRT (mAe fin)) hs
theorem Ai5:MC X (HA X.K):=by
 intro value slice pins s σ H x y v u Q n B D h hs;obtain⟨p,xs,i,z,rfl,rfl,hq,he,q⟩:=h
 cases B
 obtain⟨t,rfl⟩:=D;obtain⟨its,r,pl,hz⟩:=n.tuple hq;obtain⟨j,h1,h2,G,h4,I⟩:=Uz he;obtain⟨w,J,L⟩:=r.get h2;have M:=Ke;exact subscriptTail_builtinR (x:=w) pl.typeIs Auh.lookup
  (getItem_tuple (j:=j) (Q:=λr s'=>r=w/\ aRU) pl aA aA (mFA r.length h1) (mR J) (mAe (z,H,n,L,q))) hs
theorem QY:MC X Ai4:=by
 intro value slice pins s σ H x y v u Q n B D h hs;obtain⟨z,i,c,rfl,rfl,hz,he,q⟩:=h;obtain⟨t,rfl⟩:=B;obtain⟨t',rfl⟩:=D;obtain⟨j,h1,h2,G,h4,I⟩:=Uz he;have J:z.cps.toList.length=z.length:=(by simp[Str.length]);rw[J] at h1 h4 I;have L:=Ke;exact tail_any (AuH s z t) slot_str_getitem.lookup (getItem_str (c:=c) (by rw[aBr,aBr,Bool.or_false]) (by rw[h1];simpa using h2) (mE8 wE c q)) hs
theorem Ai6(its:aT)(n j:Nat)(u:Value):Obj.mapSeq (·.setIfInBounds j u) {cls:= fJ,data:= aBc}={cls:= fJ,data:= mAh (its.set j u).toArray}:=by simp[Obj.mapSeq]
theorem Inv.Ac(j:aE)(h:H p=hG):
 ∃(its:aT)(n:Nat),aD2 /\nU p=some {cls:= fJ,data:= aBc}/\xs.length<=sizeLine:=by
 obtain⟨z,its,n,r,e⟩:=xJ p h;exact(its,n,r,e,z)
theorem Inv.Ai7{its its':aT}(j:aE)(h:H p=hG)
 (z:mIC nU p aBc) (hf:f {cls:= fJ,data:= aBc}={cls:= fJ,data:= aRW}) (r:AB ys its') (hz:aGF) (t:Nat):
 Inv X pins σ (nE H p ys) {s with heap:=mFB p f,toks:=t}:=by
 have e:(mFB p f).get? p=some {cls:= fJ,data:= aRW}:=by rw[AuC f z (by rw[hf]<;>rfl),hf]
 refine j.Ib (x:=p) (e:=p) (by rw[h];trivial) aZ (λb u hb q=>(mC Heap.get?_update_other (Asr hb)).trans q) aGG ?_;exact(hz,its',n',r,e)
def QZ:V->V->V->Hp-> hI ->Prop:=λo i v H Q=>∃p xs k j,o= aS /\i= mE k/\H p=hG /\mBO FK k=mB j/\Q aRX
theorem OM:Uc X QZ:=by
 intro pins s σ H o i v z iv u Q B D G I h;obtain⟨p,xs,k,j,rfl,rfl,hp,hj,q⟩:=h
 cases D
 obtain⟨t,rfl⟩:=G;obtain⟨its,n,r,J,hz⟩:=B.Ac hp;obtain⟨h1,h2,L,h4⟩:=YS hj;have M:=r.length;have N:=Ke;have O:Inv X pins σ aRX {s with heap:=mFB p (Obj.mapSeq (·.setIfInBounds j u))}:=
  B.Ai7 hp J (Ai6 its n j u) (r.set I j) (oD List.length_set hz) s.toks
 by_cases h0:0<=k
 .have hk:k.toNat=j:=by
   rw[mIy h4] at h1;exact Ase h1
  exact PySem.W.ki_setAt J h0 aA (mFA M h4) aRY
 have hk:mMz k:=by rw[mIz L] at h1;rw[As2,<-M];exact Ase h1
 exact PySem.W.ki_setBack J aA (mFA M L) aA aRY
theorem Ai8(lo hi:dP)(n:Nat):(aLa).1=((HT.AK n 0 lo:Nat):Int)/\(aLa).2.1=((HT.AK n n hi:Nat):Int)/\(aLa).2.2=1:=by
 refine(5,5,2)
 .cases lo with
  |none=>simp[sliceBounds,HT.AK]
  |some i=>
   simp only[sliceBounds,HT.AK,Option.getD_none,show(1:Int)>0 by decide,if_true];by_cases h:i<0
   .simp only[h,if_true]<;>omega
   simp only[h,if_false]<;>omega
 cases hi with
 |none=>simp[sliceBounds,HT.AK]
 |some i=>
  simp only[sliceBounds,HT.AK,Option.getD_none,show(1:Int)>0 by decide,if_true];by_cases h:i<0
  .simp only[h,if_true]<;>omega
  simp only[h,if_false]<;>omega
theorem Ai9(its:aT)(lo hi:dP):slicePick its.toArray lo hi none=(mFz its.drop its.length).toArray:=by obtain⟨h1,h2,j⟩:=Ai8 lo hi its.toArray.size;unfold slicePick;rw[h1,h2,j];simp only[sliceRange_one,pick_run,List.size_toArray]<;>rfl
def U1(K:PySem.W.Frag):mDp Int:=λx lo hi H Q=>∃a xs,x= aI /\ gQ /\∀p,H p=none->mBI H (.Ac aEp)
theorem U2:MB X (U1 X.K):=by
 intro pins s σ H x v j n lo hi sl Q z B hs pl pu h;obtain⟨a,xs,rfl,hx,q⟩:=h
 cases B
 obtain⟨its,r,D,hz⟩:=z.list hx;have hlen:=r.length;refine("list",_,slot_list_getitem.lookup,D.isList.typeIs,5);refine wpAny_getItem_list_slice D.isList hs pl pu .none aC ?_ aRV;rw[Ai9,<-hlen];refine(eP,_,z.DV (t':=s.toks) (o:= .Ac aEp) aRQ aF ?_,2,q _ aK8);exact(aRR,_,60,mBN mFz r.drop,eQ)
def Fh:V->Bool
 | .Ax=>true
 | .bl _=>true
 | .int _=>true
 | .str _=>true
 |_=>false
def FM:V->V->Bool
 | .Ax,.Ax=>true
 | .bl a,.bl b=>a==b
 | .bl a,.int b=>(mAi a)==b
 | .int a,.bl b=>a==(mAi b)
 | .int a,.int b=>a==b
 | .str a,.str b=>a==b
 |_,_=>false
theorem AiA(j:eO)(n:hY)(q:nI Fh y)(z:nI Fh x):SeqAt.EqAt A s u v (FM y x):=by
 cases y with
 |Ax=>
  cases j
  cases x with
  |Ax=>cases n;exact aLb
  |bl b=>cases n;exact SeqAt.EqAt.none_bool b
  |int b=>obtain⟨t,rfl⟩:=n;exact SeqAt.EqAt.none_int b t
  |str b=>obtain⟨t,rfl⟩:=n;exact SeqAt.EqAt.none_str b t
  |_=>exact mAz z
 |bl a=>
  cases j
  cases x with
  |Ax=>cases n;exact SeqAt.EqAt.bool_none a
  |bl b=>cases n;exact SeqAt.EqAt.bool_bool a b
  |int b=>obtain⟨t,rfl⟩:=n;exact SeqAt.EqAt.bool_int a b t
  |str b=>obtain⟨t,rfl⟩:=n;exact SeqAt.EqAt.bool_str a b t
  |_=>exact mAz z
 |int a=>
  obtain⟨t',rfl⟩:=j
  cases x with
  |Ax=>cases n;exact SeqAt.EqAt.int_none a t'
  |bl b=>cases n;exact SeqAt.EqAt.int_bool a t' b
  |int b=>obtain⟨t,rfl⟩:=n;exact SeqAt.EqAt.int_int a t' b t
  |str b=>obtain⟨t,rfl⟩:=n;exact AvN a t' b t
  |_=>exact mAz z
 |str a=>
  obtain⟨t',rfl⟩:=j
  cases x with
  |Ax=>cases n;exact SeqAt.EqAt.str_none a t'
  |bl b=>cases n;exact SeqAt.EqAt.str_bool a t' b
  |int b=>obtain⟨t,rfl⟩:=n;exact AvO a t' b t
  |str b=>obtain⟨t,rfl⟩:=n;exact SeqAt.EqAt.str_str a t' b t
  |_=>exact mAz z
 |_=>exact mAz q
def E6(x:V)(u:Value):Bool:=match u with
 | .none=>FM .Ax x
 | .bool b=>FM (.bl b) x
 | .int i _=>FM eZ x
 | .str z _=>FM (nK z) x
 |_=>false
theorem Q_(r:eO)(f:nI Fh y):E6 x u=FM y x:=by
 cases y with
 |Ax=>cases r;rfl
 |bl b=>cases r;rfl
 |int i=>obtain⟨t,rfl⟩:=r;rfl
 |str z=>obtain⟨t,rfl⟩:=r;rfl
 |_=>exact mAz f
theorem ON:∀{xs:aK}{us:aT},fG ->xs.all Fh=true->us.any aEq=xs.any λy=>FM y x
 |_,_,.nil,_=>rfl
 |y::xs,u::us,.cons r t,f=>by
  rw[AtJ,AsF] at f;rw[Ata,Ata,Q_ r f.1,ON t f.2]
theorem MD(j:hY)(n:nI Fh x):∀{xs:aK}{us:aT},fG ->xs.all Fh=true->∀u∈us,SeqAt.EqAt A s u v (E6 x u)
 |_,_,.nil,_=>λu hu=>by cases hu
 |y::xs,u::us,.cons r t,f=>λu' hu=>by
  rw[AtJ,AsF] at f;rcases pN hu with rfl|hu
  .rw[Q_ r f.1];exact AiA r j f.1 n
  exact MD j n t f.2 u' hu
def DP(x:V)(xs:aK):Bool:=xs.any λy=>FM y x
def Ra(K:PySem.W.Frag)(neg:Bool):R2:=λx y H Q=>∃p xs,y= aS /\(mID K H xs)/\Fh x=true/\xs.all Fh=true/\rG (if neg then !DP x xs else DP x xs)
theorem ME:Bt X aGH (Ra X.K false):=by
 intro pins s σ H x y v u Q j n z h;obtain⟨p,xs,rfl,hq,B,fs,q⟩:=h
 cases z
 rcases hq with hq|hq
 .obtain⟨its,r,pl,hz⟩:=aCy;refine mFC SeqAt.in_listAt pl.isList;rw[show mFD x=its.any aEq by simp,ON r fs];exact q
 obtain⟨its,r,pl,hz⟩:=aCz;refine mFC SeqAt.in_tupleAt pl;rw[show mFD x=its.any aEq by simp,ON r fs];exact q
theorem YT:Bt X aRZ (Ra X.K true):=by
 intro pins s σ H x y v u Q j n z h;obtain⟨p,xs,rfl,hq,B,fs,q⟩:=h
 cases z
 rcases hq with hq|hq
 .obtain⟨its,r,pl,hz⟩:=aCy;refine mFC SeqAt.notIn_listAt pl.isList;rw[show mFD x=its.any aEq by simp,ON r fs];exact q
 obtain⟨its,r,pl,hz⟩:=aCz;refine mFC SeqAt.notIn_tupleAt pl;rw[show mFD x=its.any aEq by simp,ON r fs];exact q
theorem Rb:DW X aEr (mIE X.K):=by
 intro pins s σ H xs us Q j r h;obtain⟨p,ys,rfl,hq,q⟩:=h;obtain⟨u,rfl,n⟩:=OK r
 cases n
 have z:=Ke;rcases hq with hq|hq
 .obtain⟨its,B,pl,hz⟩:=aCy;have hlen:=B.length;exact Calls.call_len_list pl.isList aLc (mMA H)
 obtain⟨its,B,pl,hz⟩:=aCz;have hlen:=B.length;exact len_tuple pl aLc (mMA H)
theorem HB:DW X aEr (λxs H Q=>∃z,xs=[nK z]/\z.length<=sizeLine/\sY z.length):=by intro pins s σ H xs us Q j r h;obtain⟨z,rfl,hz,q⟩:=h;obtain⟨u,rfl,t,rfl⟩:=OK r;have n:=Ke;exact len_str aA (mE z.length,144)
theorem AiB:DW X hB (mMB X.K):=by
 intro pins s σ H xs us Q j r h;obtain⟨p,ys,rfl,h⟩:=h;obtain⟨u,rfl,n⟩:=OK r
 cases n
 rcases h with⟨hq,q⟩|⟨hq,q⟩
 .obtain⟨its,z,pl,hz⟩:=aCy;have hlen:=z.length;refine call_tuple_list pl.isList (λh' kp=>?_) aLc;have B:=j.CF (t':=s.toks) kp;have D:Inv X pins σ (nX h'.objs.size (.Al ys)) {s with heap:=h'.push {cls:= hB,data:= aR0}}:=
   B.DV (t':=s.toks) aR1 aF (show C9 X.prog X.w _ _ _ (.Al ys) from(hz,its,z,IsTup.new _ _))
  exact(mF h'.objs.size,_,D,2,q _ aK3)
 obtain⟨its,z,pl,hz⟩:=aCz;exact call_tuple_same pl (aS,H,j,2,q)
def U3(K:PySem.W.Frag)(T:String)(x:V)(H:Hp):Prop:=match x with
 | .str _=>T="str"
 | .int _=>T="int"
 | .ref p=>(T="list"/\∃xs,aEf)\/(T="tuple"/\∃o,rS p=aH /\o.cls= hB /\o.dict=none)\/
  (T="dict"/\((∃kvs,H p=aCw)\/∃kvs,H p=aCA))\/(T="set"/\∃S n,H p=mB (.set S n))
 |_=>False
theorem YU(j:aE)(r:hY)(ty:U3 X.K T x H):
 s.TypeIs v T/\∀a,v= aI ->∃q,nU a=dA /\q.dict=none:=by
 cases x with
 |str z=>
  obtain⟨t,rfl⟩:=r
  cases (show T="str" from ty)
  exact(AuH s z t,202)
 |int i=>
  obtain⟨t,rfl⟩:=r
  cases (show T="int" from ty)
  exact(mFE s i,202)
 |ref p=>
  cases r
  rcases ty with⟨rfl,xs,hq⟩|⟨rfl,o,hk,hc,hd⟩|⟨rfl,hk⟩|⟨rfl,S,n,hk⟩
  .obtain⟨its,_,pl,_⟩:=aCy;refine(pl.isList.typeIs,λa e=>?_)
   cases e
   obtain⟨o,n,e,c,hd,_⟩:=pl;exact(mO o e hd)
  .refine((o,mFc p,hc),λa e=>?_)
   cases e
   exact(o,mFc _,hd)
  .have z:∃o,nU p=aH /\o.ExactDict:=by
    rcases hk with⟨kvs,hk⟩|⟨kvs,hk⟩
    .obtain⟨_,_,_,_,o,_,_,e,ex,_⟩:=xJ p hk;exact(mO o e ex)
    obtain⟨_,_,_,_,o,_,_,e,ex,_⟩:=xJ p hk;exact(mO o e ex)
   obtain⟨o,e,ex⟩:=z;refine aR2
   cases B
   exact aR3
  obtain⟨o,_,_,_,e,ex,_⟩:=xJ p hk;refine aR2
  cases B
  exact aR3
 |_=>exact sH ty
def YV(K:PySem.W.Frag)(T:String)(r:hK)(to:TE):TE:=λσ H Q=>to σ H λx H1=>U3 K T x H1/\r x [] H1 Q
def Rc(K:PySem.W.Frag)(T:String)(r:hK)(to:TE)(t:TA):TE:=λσ H Q=>to σ H λx H1=>U3 K T x H1/\t σ H1 λxs H2=>r x xs H2 Q
variable {o e:Expr} {es:hW} {to:TE} {t:TA} {name:Str} {apos cpos:Pos} {T id:String} {r:hK}
theorem AiC(j:aGI)(slot:mBP T)(n:aCB)(hm:aCC)(q:kB)
 (z:uP o name:=by rfl) (B:wF cpos.line:=by rfl):PE X (mBQ [] cpos) (YV X.K T r to):=by
 intro pins s σ H Q D h;refine wpAny_Call_method0_late z B (A5 (oQ q D) λv s1 (x,H1,G,I,ty,J)=>?_);obtain⟨h1,h2⟩:=YU G I ty;exact(159,mBR (AuQ (hm pins s1 σ H1 x [] v [] Q G I .nil J)))
theorem YW(j:aGI)(slot:mBP T)(n:aCB)(hm:aCC)(q:kB)(ha:aBp)
 (z:uP o name:=by rfl)
 (B:((mAA gP).all aGJ&&aLd
  &&decide (gP.length+([]:aEn).length+aGK<30))=true:=by rfl)
 (D:wF cpos.line:=by rfl) (hs:aAw:=by rfl) (G:(mAA es).any (·.1)=false:=by rfl):
 PE X (mBQ gP cpos) (Rc X.K T r to t):=by
 intro pins s σ H Q I h;refine wpAny_Call_method_late z B D rfl (A5 (oQ q I) λv s1 (x,H1,J,L,ty,M)=>?_);obtain⟨h1,h2⟩:=YU J L ty;refine(159,5);have N:=ha cpos pins s1 σ H1 _ J M;rw[hs] at N⊢;refine Ato (by show(false||(mAA es).any (·.1))=false;rw[G]<;>rfl) (Auv ?_);exact A5 N λus s2 (vs,H2,O,U,Y)=>hm pins s2 σ H2 x vs v us Q O L U Y
end
end L2
namespace L2
open PySem PySem.Spec PyProof.Rows
def U4(X:Cx)(id:String)(r:hK):Prop:=
 ∀(pins:bA)(s:Shared)(σ:St)(H:Hp)(x:V)(xs:aK)(v:Value)(us:aT)(Q:VK),aE -> hY -> fG ->r x xs H Q->
  wpAny bM X.A aRS gE X.xe s
theorem AB.FN:∀{x:V}{us:aT},qO [x]->∃u,us=[u]/\sV x
 |_,_,.cons r .nil=>(mEX r)
theorem AB.U5:∀{x y:V}{us:aT},qO aAt ->∃u v,us=[u,v]/\sV x/\AJ y v
 |_,_,_,.cons r (.cons q .nil)=>(3,r,q)
theorem AB.zero:∀{us:aT},qO []->us=[]
 |_,.nil=>rfl
theorem AB.dropLast(h:fG):AB xs.dropLast us.dropLast:=by
 induction h with
 |nil=>exact .nil
 |cons r t j=>
  cases t with
  |nil=>exact .nil
  |cons q t'=>exact rR r j
theorem AB.YX(h:fG):∀k:Nat,AB (oX k xs).flatten (oX k us).flatten
 |0=> .nil
 |k+1=>by
  rw[AtC,AtC,Aub,Aub];exact AB.append h (AB.YX h k)
theorem AiD(l:cL):l.eraseIdx (l.length - 1)=l.dropLast:=by
 induction l with
 |nil=>rfl
 |cons a r j=>
  cases r with
  |nil=>rfl
  |cons b r=>
   have e:(a::b::r).length - 1=(aBs.length - 1)+1:=by have h1:(a::b::r).length=r.length+2:=rfl;have h2:aBs.length=r.length+1:=rfl;omega
   rw[e,List.eraseIdx_cons_succ,j]
   all_goals rfl
theorem YY(its:aT):∀(k:Nat)(acc:aT),
 List.foldl (λj n=>j++n) acc.toArray (mFF oX k)=(acc++(oX k its).flatten).toArray
 |0,acc=>by simp
 |k+1,acc=>by
  have e:acc.toArray++its.toArray=aLe.toArray:=aC;have q:aLe++(oX k its).flatten=acc++(oX (k+1) its).flatten:=by rw[AtC,Aub,At3]
  rw[<-q,<-YY its k aLe,<-e,AtC,Ati]
section
variable {X:Cx} {pins:bA} {σ:St} {H:Hp} {s:Shared} {l b:Addr} {xs ys zs:aK}
theorem Inv.Re{its its':aT}(j:aE)(z:H l=hG)
 (e:mIC nU l aBc) (hf:f its.toArray=its'.toArray) (B:AB ys its') (hz:aGF):
 Inv X pins σ (nE H l ys) {s with heap:=mFB l aR4,toks:=t'}:=by
 have q:=PySem.IsL.update e f;rw[hf] at q;refine j.Ib (x:=l) (e:=l) (oD z trivial) aZ (λI u hb hu=>(tQ Heap.get?_update_other aR4 (Asr hb)).trans hu) (qU q) ?_;exact(hz,its',_,B,q)
theorem Inv.YZ(j:aE)(z:AB ys its)(hz:aGF):
 Inv X pins σ (mFo nE H ys) {s with heap:=s.heap.push {cls:= fJ,data:= aR0},toks:=t'}:=
 j.DV aLf aF (hz,its,60,z,eQ)
theorem Inv.BC(j:aE):nA mDr H:=aBq
theorem Inv.Kj(j:aE)(q:H l=hG):xs.length<=sizeLine/\∃(its:aT)(n:Nat),aD2 /\xs.length=its.length/\nU l=some {cls:= fJ,data:= aBc}:=by obtain⟨z,its,n,r,e⟩:=xJ l q;exact(z,its,n,r,r.length,e)
theorem Y_(h:pX n):pV Builtin.List.listTooLong n:=by exact aBr
end
section
variable {X:Cx}
def AiE:hK:=λx vs H Q=>∃l xs y,x= eR /\vs=[y]/\H l=hG /\xs.length<sizeLine/\mFG l (xs++[y])
theorem E_:U4 X "list.append" AiE:=by
 intro pins s σ H x vs v us Q j B D h;obtain⟨l,xs,y,rfl,rfl,G,hz,q⟩:=h
 cases B
 obtain⟨u,rfl,I⟩:=D.FN;obtain⟨z,its,n,r,J,e⟩:=j.Kj G;refine mFH AsH F.entry_list_append (F.args_list_append_2 _ _) (PySem.list_append l its.toArray n u aGL);refine(.Ax,_,j.Re (its':=its++[u]) G e aC (mDm (wC I)) ?_,2,q);rw[Asi,AsD];omega
def U6:hK:=λx vs H Q=>∃l b xs zs,x= eR /\vs=[bW]/\H l=hG /\H b=nV zs/\xs.length+zs.length<=sizeLine/\mFG l (xs++zs)
theorem Rh:U4 X "list.extend" U6:=by
 intro pins s σ H x vs v us Q j B D h;obtain⟨l,b,xs,zs,rfl,rfl,G,I,hz,q⟩:=h
 cases B
 obtain⟨u,rfl,J⟩:=D.FN
 cases J
 obtain⟨z,its,n,r,L,e⟩:=j.Kj G;obtain⟨M,N,n2,O,aa,U⟩:=j.Kj I;have hsz:its.toArray.size+N.toArray.size<=sizeLine:=aR5;have Y:¬(!its.toArray.isEmpty&&mMC (its.toArray.size+N.toArray.size))=true:=by rw[Y_ hsz,AuD];exact Ast
 refine Auc Au2 (sZ e) F.entry_list_extend (F.args_list_extend_2 _ _)
  (AutoSeq1.list_extend_list_list_0 l its.toArray n b N.toArray n2 Y aGL aA) (rF e U)
 refine(.Ax,_,j.Re (its':=its++N) G e aC (mDm O) ?_,2,q);rw[Asi];omega
def AiF:hK:=λx vs H Q=>∃l xs y,x= eR /\vs=[]/\H l=hG /\xs[xs.length - 1]? =mB y/\Q y (nE H l xs.dropLast)
theorem AiG:U4 X "list.pop" AiF:=by
 intro pins s σ H x vs v us Q j B D h;obtain⟨l,xs,y,rfl,rfl,G,hy,q⟩:=h
 cases B
 have I:=D.zero;subst I;obtain⟨z,its,n,r,J,e⟩:=j.Kj G;obtain⟨u,hu,L⟩:=r.get hy;have M:pC its.toArray[its.toArray.size - 1]? u:=by show its.toArray[its.length - 1]? =aM;rw[<-Array.getElem?_toList,<-J];exact hu
 refine mFH F.slot_list_pop F.entry_list_pop (F.args_list_pop_1 _) (MeetsSeq.list_pop_last l its.toArray n u M aGL);refine(y,_,j.Re (its':=its.dropLast) G e ?_ r.dropLast ?_,L,q)
 .show its.toArray.eraseIdxIfInBounds (its.toArray.size - 1)=its.dropLast.toArray;rw[As2,List.eraseIdxIfInBounds_toArray,AiD]
 rw[Av0];omega
def Za:R2:=λx y H Q=>∃l b xs zs,x= eR /\y= bW /\H l=hG /\H b=nV zs/\xs.length+zs.length<=sizeLine/\∀p,H p=none->mAx H (xs++zs)
theorem HC:Bt X aKL Za:=by
 intro pins s σ H x y v u Q j B D h;obtain⟨l,b,xs,zs,rfl,rfl,G,I,hz,q⟩:=h
 cases B
 cases D
 obtain⟨z,its,n,r,J,e⟩:=j.Kj G;obtain⟨L,M,n2,N,O,U⟩:=j.Kj I;refine PySem.P.add_list e U ?_ aR5;have Y:its.toArray++M.toArray=(its++M).toArray:=aC;rw[Y];exact(mMD (mDm N) (qT Asi))
def Zb:R2:=λx y H Q=>∃l k xs,x= eR /\y= mE k/\H l=hG /\ -(2 ^ 63)<=k/\k<2 ^ 63/\xs.length*k.toNat<=sizeLine/\
 ∀p,H p=none->mAx H (oX k.toNat xs).flatten
theorem AiH(xs:cL)(k:Nat):(oX k xs).flatten.length=k*xs.length:=by
 induction k with
 |zero=>simp
 |succ k j=>rw[AtC,Aub,Asi,j,Nat.succ_mul,Nat.add_comm]
theorem Lo:Bt X (binaryOp .Mult) Zb:=by
 intro pins s σ H x y v u Q j B D h;obtain⟨l,k,xs,rfl,rfl,G,h1,h2,hz,q⟩:=h
 cases B
 obtain⟨t,rfl⟩:=D;obtain⟨z,its,n,r,I,e⟩:=j.Kj G;have hlen:its.toArray.size*k.toNat<=sizeLine:=(mFA I hz);have J:¬its.toArray.size*k.toNat>(2 ^ 63 - 1)/8:=by have:(sizeLine:Nat)<=(2 ^ 63 - 1)/8:=bB;omega
 have L:¬(!Builtin.List.listFitsIndex k)=true:=by rw[fitsIndex_both h1 h2];exact Ast
 have M:¬mMC (its.toArray.size*k.toNat)=true:=by rw[Y_ hlen];exact Ast
 have N:mME (if its.toArray.isEmpty=true then 0 else k.toNat)=(oX k.toNat its).flatten.toArray:=by
  have f0:∀m:Nat,mME m=(oX m its).flatten.toArray:=λm=>by have:=YY its m [];rw[Atz] at this;exact this
  rw[f0]
  cases its with
  |nil=>simp
  |cons a aa=>rw[kF]
 refine wpAny_binaryOp_repeat_ref (T:="list") (U:="int") bB (sZ e) (λs'=>mFE s' k) noFill_list_mul F.fills_int_mul F.slot_int_rmul repeat_list F.slot_int_index.lookup
  (Auc F.slot_int_rmul (mFE s k) F.entry_int_rmul (F.args_int_rmul_2 _ _) (int___rmul___int_list k t l its.toArray n)
   (e,2,(sZ e),mFH F.slot_list_mul F.entry_list_mul (F.args_list_mul_2 _ _) (AutoListH.list___mul___list_int_3 l its.toArray n k t L J M)))
 rw[N];exact(mMD (r.YX k.toNat) (by rw[AiH,Avu];exact hz))
end
section
variable {prog:Program} {w:World} {A:Around} {E:bK} {s:Shared}
set_option maxRecDepth 100000 in
end
section
variable {X:Cx}
end
end L2
namespace L2
open PySem PySem.Spec PyProof.Rows
theorem AB.ints:∀{ns:bG}{us:aT},qO iB->mBS us
 |[],us,h=>by
  rw[AuX] at h
  cases h
  exact IntsAre.nil
 |n::ns,us,h=>by
  rw[Asn] at h
  cases h with
  |cons r t=>
   obtain⟨k,rfl⟩:=r;exact IntsAre.cons n k (AB.ints t)
theorem U7:∀{us:aT}{ns:bG},mBS us->qO iB
 |_,_,.nil=>by rw[AuX];exact Paired.nil
 |_,_,.cons n t h=>by rw[Asn];exact Paired.cons (show AJ (mQ n) (mHV n) from aBt) (U7 h)
theorem AB.Zc:∀{bs:aEs}{us:aT},qO (bs.map V.bl)->us=aR6
 |[],us,h=>by
  rw[AuX] at h
  cases h
  rfl
 |b::bs,us,h=>by
  rw[Asn] at h
  cases h with
  |cons r t=>
   cases r
   rw[AB.Zc t,Asn]
theorem AB.Lq(r:qO aCD):us=[rE a]:=by
 cases r with
 |cons r t=>
  cases t
  cases r
  rfl
section
variable {prog:Program} {w:World} {A:Around} {E:bK} {s:Shared} {l:Addr} {its:aT} {ns:bG} {Q:bK}
theorem AiI(j:lH)(n:aR7)(hi:mBS its)
 (h:∀h' tk t',aLg ->Q (.int ns.sum t') {s with heap:=h',toks:=tk}):wpAny bC A (uQ "sum" [eR]) Q E s:=by
 obtain⟨xs,e⟩:=hi.allInts.items;have q:aR8:=aR9;rw[nums_intItems] at q;rw[e] at n;refine PySem.sum_intListG j n λh' tk t' hk=>?_;have:=h h' tk t' hk;rw[preSum_eq,AsW aC,q];exact this
theorem AiJ(n:lH)(q:aR7)(hi:mBS its)(z:0<ns.length)
 (h:∀h' tk M t',aLg ->M∈ns->(∀a,a∈ns->a<=M)->Q (.int M t') {s with heap:=h',toks:=tk}):wpAny bC A (uQ "max" [eR]) Q E s:=by
 obtain⟨xs,e⟩:=hi.allInts.items;have B:aR8:=aR9;rw[nums_intItems] at B;subst B;rw[e] at q;have hsz:0<xs.size:=(mR z);refine PySem.max_intList n q hsz λv h' tk D hk=>?_;obtain⟨t,rfl⟩:=intItems_at D;obtain⟨h1,h2⟩:=argBest_gt (numAt xs) (xs.size - 1);refine h h' tk _ t hk ?_ λa ha=>?_
 .rw[numAt_eq];exact PySem.getD_mem (mBH Aug)
 obtain⟨j,hj,rfl⟩:=mem_getD ha;rw[ArX,Aug] at hj;rw[<-numAt_eq];exact h2 j aA
end
section
variable {X:Cx}
def Zd(K:PySem.W.Frag):aAs:=λvs H Q=>∃(a:Addr)(ns:bG),vs=aCD /\ iC /\sY ns.sum
def Ze(K:PySem.W.Frag):aAs:=λvs H Q=>∃(a:Addr)(ns:bG),vs=aCD /\ iC /\0<ns.length/\∀m,m∈ns->(∀y,y∈ns->y<=m)->sY m
theorem AiK(hc:fN):DW X (tT "sum") (Zd X.K):=by intro pins s σ H vs us Q j r h;obtain⟨a,ns,rfl,hs,q⟩:=h;obtain⟨its,n,z,_⟩:=yS hs;rw[aBu];exact AiI aLh z.isList n.ints λh' tk t' hk=>(160,q)
theorem AiL(hc:fN):DW X (tT "max") (Ze X.K):=by intro pins s σ H vs us Q j r h;obtain⟨a,ns,rfl,hs,n,q⟩:=h;obtain⟨its,z,B,_⟩:=yS hs;rw[aBu];exact AiJ aLh B.isList z.ints n λh' tk m t' hk h1 h2=>(160,q m h1 h2)
end
section
variable {X:Cx}
def Zf(K:PySem.W.Frag):hK:=λx xs H Q=>∃(a:Addr)(ys:aK)(y:V)(j:Nat)(z:V),x=nC a/\xs=[y]/\tV ys/\Fh y=true/\ys.all Fh=true/\ys[j]? =mB z/\FM z y=true/\
 (∀(m:Nat)(n:V),m<j->ys[m]? =mB n->FM n y=false)/\sY (j:Nat)
theorem Zg{ys:aK}(f:nI ys.all Fh){j:Nat}(h:ys[j]? =mB z):nI Fh z:=vW f z (Asl h)
theorem AiM:EM X "list.index" (Zf X.K):=by
 intro pins s σ H x xs v us Q B D G h;obtain⟨a,ys,y,j,z,rfl,rfl,hs,I,J,hz,L,M,q⟩:=h
 cases D
 cases G with
 |cons aa rt=>
  rename_i ab ut
  cases rt
  obtain⟨its,N,⟨⟨cls,dd,data,sl⟩,n,O,hc,ac,hd⟩,hlen⟩:=B.list hs;simp only at hc hd;subst hc hd;obtain⟨u,hu,ae⟩:=N.get hz;obtain⟨af,ag⟩:=nS hu;have ah:=N.length;have ai:=AuP;refine Auc AvF (sZ O) PySem.F.entry_list_index (PySem.F.args_list_index_2 _ _)
   (SeqAt.list_indexAt a its.toArray n dd sl ab (E6 y) j (mR af) aA ?_ ?_) (O,λu' aj=>MD aa I N J u' (mR aj),5)
  .have U:its.toArray[j]=u:=(mR ag);rw[U,Q_ ae (Zg J hz)];exact L
  .intro m hm ak;have al:m<its.length:=aGM;have Y:pC ys[m]? ys[m]:=fP;obtain⟨am,an,ao⟩:=N.get Y;obtain⟨_,ap⟩:=nS an;have U:its.toArray[m]=am:=(mR ap);rw[U,Q_ ao (Zg J Y)];exact M m _ ak Y
  exact(mE (j:Nat),H,B.BW _,bY,q)
end
section
variable {X:Cx}
end
theorem AiN(j:mDs s.heap.IsList)
 (h:∀n:Shared,n={s with heap:=s.heap.push {cls:= oE "list_iterator",data:= aSa}}->
  (mMF n.heap.IsListIter/\mDs n.heap.IsList)->l≠s.heap.objs.size->Q eP n):wpAny bC A (pyIter eR) Q E s:=by
 exact At_ j (h _ rfl (jB,j.push _) (AsP (by obtain⟨_,e,_⟩:=j;exact fK)))
theorem AiO{bs:aEs}(e:its=aR6):
 TruthOf prog w A (λi v=>its.toArray[i]? =bJ) (λi=>mFI i):=λi v s Q E j hq=>by
 have n:pC its[i]? v:=(mR j);rw[e,ArY] at n;obtain⟨b,hb,rfl⟩:=mMG n;have hg:mFI i=b:=(by rw[Asv,hb]<;>rfl);have q:Q (mFI i) s:=hq;rw[hg] at q;exact Atm q
theorem Zh:∀bs:aEs,(oP bs.length).all (λi=>mFI i)=bs.all id
 |[]=>rfl
 |b::bs=>by
  rw[As1,Avj,AtJ,Atw,AtJ,<-Zh bs]
  all_goals rfl
section
variable {X:Cx}
def Zi(K:PySem.W.Frag):aAs:=λvs H Q=>∃(a:Addr)(bs:aEs),vs=aCD /\tV (bs.map V.bl)/\rG (bs.all id)
theorem AiP(hc:fN):DW X (tT "all") (Zi X.K):=by
 intro pins s σ H vs us Q j r h;obtain⟨a,bs,rfl,hs,q⟩:=h;obtain⟨its,n,z,_⟩:=yS hs;rw[aBu];have hb:=n.Zc;refine call_all_walk (AiN z.isList λB D st G=>?_);subst D;refine(48,_,3,Walks.list (A:=X.A.in1) aLh _ a G its.toArray,st,AiO hb,λh' tk hk=>(.bl _,H,j.CF λb o I=>hk b o (λhmem=>?_) (pK I),5,q))
 .rcases pN hmem with J|hmem
  .exact nL (J▸Asu I) aGl
  cases hmem
 show Value.bool _=Value.bool _;rw[<-Zh,hb,As2,ArX]
end
section
variable {X:Cx} {pins:bA} {σ:St} {H:Hp} {s:Shared}
end
section
variable {X:Cx}
end
end L2
namespace L2
open PySem PySem.Spec PyProof.Rows
abbrev Zj(h:Heap)(c:Addr)(v:aCm):Prop:=h.IsCell c v
def AiQ(scope sc:Scope):Scope:=
 {scope with names:=scope.names.map λ(n,k)=>if(k== .free&&sc.kind== .function&&uL n==aBe) then(n,.cell,) else(n,k,)}
def DZ(cells:fQ):kG -> fQ -> fQ
 |[],acc=>acc
 |(n,k)::r,acc=>if k== .free then DZ cells r ((n,aLi,)::acc) else DZ cells r acc
theorem Zk(env:Env)(f:Str×NameKind-> fQ ->Sem (ForInStep fQ))
 (hf:∀n k c,f (n,k,) c=if k== .free then(do let a<-cellOf env n;pure (.yield ((n,a,)::c))) else pure (.yield c)):
 ∀(names:kG)(acc:fQ),(∀y∈names,y.2= .free->∃c,mE1 y.1=bT)->forIn names acc f=pure (DZ env.cells names acc)
 |[],acc,_=>by rw[AwH];rfl
 |(n,k)::r,acc,h=>by
  rw[List.forIn_cons,hf];have j:=λacc=>Zk env f hf r acc λy hy=>pH h y hy;unfold DZ;by_cases hk:(k==NameKind.free)=true
  .rw[aAu,aAu];obtain⟨c,hc⟩:=h (n,k,) AsG (mR hk);have e:cellOf env n=pure c:=(by unfold cellOf;rw[hc]);rw[e];have q:(mE1 n).getD 0=c:=(qF hc);rw[q];exact j _
  rw[aAv,aAv];exact j _
theorem AiR(h:∀y∈scope.names,y.2= .free->∃c,mE1 y.1=bT):closureFor scope env=pure (DZ env.cells scope.names []):=by simp only[closureFor];rw[Zk env _ aSb scope.names [] h];rfl
theorem U8:∀{l:yX α}{n:Str}{c:α},(n,c,)∈l->∃j,l.lookup n=mB j
 |(k,v)::r,n,c,h=>by
  rw[List.lookup_cons]
  cases hb:n==k with
  |true=>exact bY
  |false=>
   rcases gO with e|h
   .cases e;simp at hb
   exact U8 h
theorem Ri:∀{names:kG}{acc:fQ}{n:Str}{c:Addr},(n,c,)∈ aLj ->(n,c,)∈acc\/((n,.free,)∈names/\c=aLi)
 |[],_,_,_,h=> jY
 |(m,k)::r,acc,n,c,h=>by
  unfold DZ at h;split at h
  .rename_i hk;have hk:k= .free:=(mR hk);rcases Ri h with h|⟨h1,h2⟩
   .rcases gO with e|h
    .cases e;exact mI (hk▸AsG,2)
    exact jY
   exact aSc
  rcases Ri h with h|⟨h1,h2⟩
  .exact jY
  exact aSc
theorem U9:∀{names:kG}{acc:fQ}{p:Str×Addr},p∈acc->p∈ aLj
 |[],_,_,h=>h
 |(m,k)::r,acc,p,h=>by
  unfold DZ;split
  .exact U9 (sE h)
  exact U9 h
theorem UA:∀{names:kG}{acc:fQ}{n:Str},(n,.free,)∈names->(n,aLi,)∈ aLj
 |(m,k)::r,acc,n,h=>by
  unfold DZ;rcases gO with e|h
  .cases e
   exact U9 AsG
  split
  .exact UA h
  exact UA h
theorem OO:∀{names:kG}{h:Heap}{acc:fQ}{x:Str}{c:Addr},(x,c,)∈mBx mDt->
 (x,c,)∈acc\/((x,.cell,)∈names/\h.objs.size<=c/\Zj (pushCells h names) c none)
 |[],_,_,_,_,h=> jY
 |(n,k)::r,h,acc,x,c,hm=>by
  unfold cellsFrom at hm;unfold pushCells;split at hm
  .rename_i hk;rw[aAu];have hk:k= .cell:=(mR hk);rw[<-AsX h {cls:= oE "cell",data:= .cell none}] at hm;rcases OO hm with hm|⟨h1,h2,j⟩
   .rcases pN hm with e|hm
    .cases e
     exact mI (hk▸AsG,aF,_,Av1 r _ _ _ eQ,2)
    exact mH hm
   rw[AsX] at h2;exact mI (sE h1,Ave h2,j)
  rename_i hk;rw[aAv];rcases OO hm with hm|⟨h1,h2,j⟩
  .exact mH hm
  exact mI (sE h1,h2,j)
theorem Rj:∀{names:kG}{n:Nat}{acc:fQ}{p:Str×Addr},p∈acc->p∈mDt n
 |[],_,_,_,h=>h
 |(m,k)::r,n,acc,p,h=>by
  unfold cellsFrom;split
  .exact Rj (sE h)
  exact Rj h
theorem UB:∀{names:kG}{n:Nat}{acc:fQ}{x:Str},(x,.cell,)∈names->∃c,(x,c,)∈mDt n
 |(m,k)::r,n,acc,x,h=>by
  unfold cellsFrom;rcases gO with e|h
  .cases e
   exact(n,Rj AsG)
  split
  .exact UB h
  exact UB h
theorem UC:∀{names:kG}{h:Heap}{acc:fQ}{x y:Str}{c:Addr},(∀p∈acc,p.2<h.objs.size)->(∀x y c,(x,c,)∈acc->(y,c,)∈acc->x=y)->
 (x,c,)∈mBx mDt->(y,c,)∈mBx mDt->x=y
 |[],_,_,_,_,_,_,hi,h1,h2=>hi _ _ _ h1 h2
 |(n,k)::r,h,acc,x,y,c,j,hi,h1,h2=>by
  unfold cellsFrom at h1 h2;split at h1
  .rename_i hk;rw[aAu] at h2;rw[<-AsX h {cls:= oE "cell",data:= .cell none}] at h1 h2;refine UC (h:=h.push _) hE (λx y c a b=>?_) h1 h2
   .rw[AsX];rcases pN hp with rfl|hp
    .exact Avl _
    exact Au7 (rC j)
   rcases pN a with e|a<;>rcases pN b with e'|b
   .cases e;cases e';rfl
   .cases e;exact nL (j _ b) aGl
   .cases e';exact nL (j _ a) aGl
   exact hi _ _ _ a b
  rename_i hk;rw[aAv] at h2;exact UC j hi h1 h2
theorem AiS{code:Value}
 (h:Q (newEnv scope s.heap.objs.size globals (mIs closure) qual func code (mB around) builtins)
  {s with heap:=aGN}):
 wpAny M A (newFunctionEnv scope globals closure [] qual func code (mB around) builtins) Q E s:=by
 simp only[newFunctionEnv,Option.isSome_some,if_true];refine mZ (wpAny_alloc ?_);refine mZ (wpAny_layCells _ aSb scope.names closure _ _ ?_);rw[show({s with heap:=s.heap.push {cls:= oE "dict",data:= .dict #[]}}:Shared).heap.objs.size=s.heap.objs.size+1 from AsX ..];rw[AwH];exact mZ (oA Asg h)
theorem UD{sc:Scope}:∀{names:kG}{x:Str}{k:NameKind},
 (names.map λ(n,k)=>if(mFJ k n) then(n,NameKind.cell,) else(n,k,)).lookup x=mB k->
 ∃k',names.lookup x=mB k'/\(k=k'\/(k'= .free/\k= .cell))
 |[],_,_,h=>by simp at h
 |(n,j)::r,x,k,h=>by
  have q:=@UD sc r x k;have h':List.lookup x ((if(mFJ j n)=true then(n,NameKind.cell,) else(n,j,))::(r.map _))=some k:=h
  cases hx:x==n with
  |true=>
   simp only[List.lookup_cons,hx];by_cases hc:(mFJ j n)=true
   .rw[mK hc] at h';simp only[List.lookup_cons,hx] at h'
    cases h'
    simp at hc;exact(j,2,xC hc.1.1 rfl)
   rw[mM hc] at h';simp only[List.lookup_cons,hx] at h'
   cases h'
   exact(0,aZ)
  |false=>
   simp only[List.lookup_cons,hx];by_cases hc:(mFJ j n)=true
   .rw[mK hc] at h';simp only[List.lookup_cons,hx] at h';exact q h'
   rw[mM hc] at h';simp only[List.lookup_cons,hx] at h';exact q h'
structure OP(N:bZ)(sc scope:Scope)(own:yX Nat):Prop where
 kind:scope.kind= .function
 UE:∀y∈scope.names,wD y.1=some y.2
 ix:∀p∈own,N[p.2]? =some p.1
 free:∀y∈scope.names,y.2= .free->uL y.1=aBe \/uL y.1=some .free
 own:∀y∈scope.names,y.2= .local\/y.2= .cell->y.1∈ aLk \/y.1∉N
def Co(σ:St):aB ->St
 |[]=>σ
 |v::vs=>eB.set v none
theorem UF(σ:St):∀vs:aB,eB.length=σ.length
 |[]=>rfl
 |v::vs=>by unfold Co;rw[List.length_set,UF σ vs]
theorem UG:∀{vs:aB},eB[i]? =mB aY ->σ[i]? =mB aY /\i∉vs
 |[],h=>(h,9)
 |v::vs,h=>by
  unfold Co at h;by_cases hi:v=i
  .subst hi;by_cases j:v<eB.length
   .rw[Avi j] at h;cases h
   rw[As9 (mR j)] at h;cases h
  rw[Avw hi] at h;obtain⟨h1,h2⟩:=UG h;exact(h1,by simp;exact(λe=>vG hi,h2))
abbrev Cx.E7(X:Cx)(s:Shared)(H:Hp)(scope:Scope)(j:Env)(q:aP):Cx:={X with EK:=s,Le:=H,env:=j,outer:=X.stack,ex:=q,fn:=λx=>wD x==aBe,pn:=[],xe:=λ_ _=>False}
section
variable {X:Cx} {pins:bA} {σ:St} {H:Hp} {s:Shared}
theorem AiT(j:aE)(ok:aGO)(aa:X.N.Nodup)(B:∀b∈ab,aEd /\b<s.heap.objs.size):
 Inv (X.E7 s H scope aSd ab) [] (Co σ aEt) H {s with heap:=aGN}:=by
 have ac:aSe:=λy hy e=>by
  rcases ok.free y hy e with k|k
  .exact j.ok.Lf _ (mH k)
  exact j.ok.Lf _ (mI k)
 generalize D:aSd=G;have kp:∀b o,nU b=aH -> aGN.get? b=some o:=λb o e=>rH Av1 jA;have I:mIF G.locals:=(mAB D);have J:G.cells=cellsFrom cZ scope.names aLl:=(mAB D);have ae:G.scope=AiQ scope X.env.scope:=(mAB D);rw[<-AsX s.heap {cls:= oE "dict",data:= .dict #[]}] at J;have L:∀{y c},(y,c,)∈ aLl ->sF y=bT /\c<s.heap.objs.size:=λ{y c}hm=>by
  rcases Ri hm with hm|⟨h1,rfl⟩
  .cases hm
  obtain⟨c,hc⟩:=ac _ h1 rfl;rw[hc];obtain⟨w,z⟩:=mC j.cell hc;exact(mAe z.lt)
 have mem:∀{y c},aGP=bT ->(sF y=bT /\c<s.heap.objs.size)\/(s.heap.objs.size+1<=c/\Zj aGN c none):=λ{y c}e=>by
  rw[J] at e;rcases OO aGQ with hm|⟨_,h2,af⟩
  .exact mH (L hm)
  rw[AsX] at h2;exact xC h2 af
 have Ll:∀{y},wD y=aGc ->∃c,aGP=bT /\sF y=some c:=λ{y}M=>by
  have hy:=AsQ M;obtain⟨N,e'⟩:=U8 (Rj (names:=scope.names) (n:=(mIG mDu).objs.size) (UA (cells:=X.env.cells) (acc:=[]) hy));rw[<-J] at e';refine(rF N e');rw[J] at e';rcases OO (AsQ e') with hm|⟨h1,_,_⟩
  .exact(L hm).1
  have:=ok.UE _ h1;rw[M] at this;cases this
 have ag:(X.E7 s H scope G ab).Ok:=by
  refine(j.ok.mod,by show G.scope.kind=_;rw[ae];exact ok.kind,by show G.globals=_;rw[<-D];exact j.ok.Jh,by show G.builtins=_;rw[<-D];exact j.ok.Ji,by show s.heap.objs.size<=G.locals;rw[I];exact aF,λy z c O U=>?_,hQ,λy c z e=>?_,j.ok.hd,j.ok.frames,aZ,mAu (5,λy c e z=>?_),j.bs,mE3 j.sz,aLm,λb hb z=>?_,j.stack,j.Yi)
  .have O:=O;have U:=U;rw[J] at O U;refine UC hE (λy z c a b=>j.ok.inj y z c (L a).1 (L b).1) (AsQ O) (AsQ U);rw[AsX];exact Au7 (L (y:=p.1) (c:=p.2) hp).2
  .show∃c,aGP=bT;have key:∀k,G.kindOf y=mB k->(k= .cell\/k= .free)->∃c,aGP=some c:=λk hk ah=>by
    unfold Env.kindOf at hk;rw[ae] at hk;obtain⟨k',e,r⟩:=UD hk;have:k'= .cell\/k'= .free:=by
     rcases r with rfl|⟨rfl,_⟩
     .exact ah
     exact dZ
    rcases this with rfl|rfl
    .obtain⟨c,hm⟩:=UB (n:=(mIG mDu).objs.size) (acc:=aLl) aGQ;obtain⟨N,e'⟩:=U8 hm;exact(N,by rw[J];exact e')
    obtain⟨c,h1,_⟩:=Ll e;exact(c,h1)
   rcases hy with hy|hy
   .exact key _ hy aZ
   exact key _ hy dZ
  .have z:=z;have z:wD y=some .cell:=(mR z);have e:=e;rw[J] at e;rcases OO aGQ with hm|⟨_,h2,_⟩
   .rcases Ri hm with hm|⟨h1,_⟩
    .cases hm
    have q:=ok.UE _ h1;rw[z] at q;cases q
   rw[AsX] at h2;exact Ave h2
  .show b≠G.locals;rw[I];exact AsP (nJ B).2
  .have e:=e;rcases mem e with⟨h1,_⟩|⟨h1,_⟩
   .exact(nJ B).1.2.2.2.2.1 y c h1 z
   have h2:s.heap.objs.size+1<=b:=(uJ z h1);exact mBv (nJ B).2 (Ave h2)
  .rcases(nJ B).1.2.2.2.1 with z|z
   .exact j.ok.O8 b o e z
   exact mBv fK (mE3 z)
  rcases pN (j.TY b z) with z|z
  .exact(nJ B).1.2.1 z
  exact(nJ B).1.2.2.1 z
 refine(ag,2,j.DM,Un.CF kp,(aK0,5,λi y ai O U e3=>?_),aKr,5,aKr,hE,j.Av.CF kp,by rw[UF];exact j.len)
 .show Heap.Ns _ G.locals _;rw[I];exact Heap.Ns.keeps (Heap.Ns.new ..) λb o e=>rH Av1 e
 .obtain⟨U,aj⟩:=UG U;have Y:wD y=aGc /\ aSf:=by
   have key:∀k,G.scope.names.lookup y=mB k->k= .local\/k= .cell\/k= .free->wD y=aGc /\ aSf:=λk hk ah=>by
    have ak:=hk;rw[ae] at hk;obtain⟨k',e,r⟩:=UD hk;have no:¬(k'= .local\/k'= .cell):=λal=>by
     rcases ok.own _ aGQ al with e'|e'
     .obtain⟨p,hp,am⟩:=pA e';have e3:=rC ok.ix;have:p.1=y:=am;rw[this] at e3;exact aj (Asx.mpr (p,hp,TZ aa e3 O))
     exact e' (Asl O)
    rcases r with rfl|⟨rfl,rfl⟩
    .rcases ah with rfl|rfl|rfl
     .exact nL aZ no
     .exact nL dZ no
     exact(e,mI ak)
    exact(e,mH ak)
   have e3:=e3;rcases e3 with e3|e3|e3
   .exact key _ e3 aZ
   .exact key _ e3 (mI aZ)
   exact key _ e3 aLn
  obtain⟨m,an,M⟩:=j.EX;obtain⟨w,r,q⟩:=M i y ai O U (aSg.elim (λk=> mBm k) (λk=> oA mI k));refine(w,r,mI (oH Y.2));obtain⟨c,h1,h2⟩:=Ll Y.1;rcases q with⟨k,_⟩|⟨_,N,e',z⟩
  .have k:mDb y=some .local:=k;rcases aSg with k'|k'<;>rw[show mDb y=_ from k'] at k<;>cases k
  rw[h2] at e';cases e';exact(c,h1,z.keeps kp)
 .have e:=e;rcases mem e with⟨h1,_⟩|⟨_,z⟩
  .obtain⟨w,z⟩:=j.cell y c h1;exact(w,z.keeps kp)
  exact(qU z)
 .show H G.locals=none;rw[I];exact aBq
 .have e:=e;rcases mem e with⟨h1,_⟩|⟨h1,_⟩
  .exact j.Gn y c h1
  exact j.Av.BC (Ave h1)
 exact aSh
theorem AiU(j:aE)(z:H D=hG)(hz:xs.length<sizeLine)(r:AJ y v)
 (h:∀s',sI (nE H D (xs++[y])) s'->Q .none s'):wpAny bM X.A (uQ "list.append" [hL,v]) Q E s:=by
 obtain⟨B,its,n,G,e⟩:=xJ D z;have I:=G.length;refine append_at (hsz:=by rw[As2];omega) e λh' J L=>?_;refine h {s with heap:=h'} (j.Ib (t':=s.toks) (by rw[z];trivial) aZ (λb u hb q=>(nJ J.2).trans q) (qU L) (by rw[Asi];exact hz,its++[v],n+1,G.append (wC r),5));rw[L];simp
def OQ(X:Cx)(ifs:hW)(t:TT):Prop:=
 ∀(pins:bA)(s:Shared)(σ:St)(H:Hp)(Q:lC),aE -> aBg ->
  wpAny bM X.A (forIn ifs true λc r=>if r=true then do let ok<-isTrue c X.env (oU c);mFK ok else mFK r) aKI X.xe s
def MF:TT:=λ_ H Q=>Q true H
theorem Cw:OQ X [] MF:=λ_ _ _ H _ j h=>wpAny_tests_nil (mO H j h)
theorem Rk(h:PT X c t):OQ X [c] t:=λpins s σ H Q j hw=>wpAny_tests_one (mC9 Q)
end
theorem MG(h:wpAny M A t Q aLo s)(j:aQA):wpAny M A t n E s:=AtL h j λ_ _ z=>sH z
theorem AiV(j:mEU Nat)
 (turn:∀n s,j n s->wpAny bC A (pyNext it) (λr q=>match r with
  |none=>R (.ok .next) q
  |some v=>wpAny bC A (letOwnedTupleGo target it v) (λ_ z=>wpAny bC A (assign target env v) (λ_ B=>
   wpAny bC A (forIn ifs true λc r=>if r=true then do let ok<-isTrue c env (xK c);mFK ok else mFK r) (λok D=>
    if ok=true then wpAny bC A (xK elt) (λx G=>
     wpAny bC A (uQ "list.append" [acc,x]) (λ_ I=>∃m,m<n/\j m I) aCE G) aCE D
    else∃m,m<n/\j m D) aCE B) aCE z) aCE q) aCE s)
 (n:Nat) (h:j n s):
 codeAny bC A (.compLoop (mMH target) 0 it acc env) R s:=by
 refine codeAny_loop rfl j (λn s J=>?_) n h;refine wpAny_noted ?_;rw[compTurn_list];refine ArZ (wpAny_standAt (mDv (turn n s J) (λr q L=>?_)))
 cases r with
 |none=>exact Asg L
 |some v=>
  refine mDv L (λ_ z M=>?_);refine mDv M (λ_ B N=>mDv N (λok D O=>?_))
  cases ok with
  |false=>exact Asg (mAe O)
  |true=>
   exact ArZ (ArZ (AtL O (λx G U=>mDv U (λ_ I Y=>oA Asg (mAe Y))) λ_ _ h'=>h'))
section
variable {X:Cx}
def UH(j:TI)(g:TG)(tt:TT)(te:TE)(vs:aB):TE:=λσ H Q=>j σ H λJ H1=>∀D,H1 D=none->∃W:aEu,aLp /\∀i m H,W i m H->
 (xG i/\Q hL H)\/(lE /\∃n:hI,(∀H',n H'->∃q,q<m/\W (i+1) q H')/\∀x H',lF ->g x eB H' λz H2=>Co z vs=eB /\tt z H2 λb B=>
  if b=true then te z B λy G=>∃acc,G D=aBv /\acc.length<sizeLine/\n (yY G) else n B)
theorem Zl
 (hc:fN) (aa:X.N.Nodup) (ab:aE) (hi:mFg ac) (ok:aGO)
 (hg:mIH PG tg g) (ae:mIH OQ ifs tt)
 (he:mIH PE elt te) (hs:aGr)
 (h:UH ac g tt te aEt σ H Q)
 (af:∀D C s' m H',aBf -> eS ->s'.heap.Ns C m->mFe H' C->compPost bM X.A X.xe use Qf hL C (.ok .next) s'):
 wpAny bM X.A (comprehension aCF scope X.env pos' (newList []) false (oU iter) use) Qf X.xe s:=by
 have ag:aSe:=λy hy e=>by
  rcases ok.free y hy e with k|k
  .exact ab.ok.Lf _ (mH k)
  exact ab.ok.Lf _ (mI k)
 refine wpAny_comprehension_free (use:=use) rfl hs (AiR ag) ok.kind (λy hy e=>by rw[ok.UE y hy,e])
  (A5 (oQ hi ab) λah s1 hx=>A5 hx λai s2 h2=>?_)
 obtain⟨it,B,G,J,H2,e,aj,T,ak,f2,q⟩:=h2;subst e;refine As_ (AiS ?_) (mAC 0);generalize I:s2.heap.objs.size=D;obtain⟨W,⟨m0,al⟩,turn⟩:=q D (aj.Av.BC (Avy I));generalize am:({s2 with heap:=s2.heap.push {cls:= fJ,data:= aSi}}:Shared)=s3;have an:Inv X pins σ aGR s3:=by rw[<-am];refine aj.DV (t':=s2.toks) aR1 (Avy I) (aR,[],60,.nil,5);rw[<-I];exact eQ
 have ao:s3.heap=s2.heap.push {cls:= fJ,data:= aSi}:=(by rw[<-am]);have sz:∀b∈B,b<s2.heap.objs.size:=λb hb=>by obtain⟨o,e,_⟩:=mIi ak;exact fK
 have L:∀b∈B,mFe aGR b/\b<s3.heap.objs.size:=λb hb=>by have ap:=nJ sz;refine((5,(nJ f2).2),by rw[ao,AsX];exact Au7 ap);rw[Ah (vF I AsP ap)];exact(nJ f2).1
 have aq:G 0 s3.heap:=T.keep _ _ _ ak λb _ o e=>(xF ao pK e);have ar:=AiT an ok aa L;have pg:=mII hg B;have pt:=mII ae B;have as:=mII he B;show codeAny _ _ (.compStart aCF 0 iZ hL aSj) aSk {s3 with heap:=mIJ s3.heap.push};have au:∀b∈B,(aGR) b=none:=λb hb=>(nJ L).1.1;generalize av:aSj=ce at ar pg pt as⊢;have aw:ce.locals=s3.heap.objs.size:=(by subst av;rfl);generalize ax:aGR=M at an ar pg pt as al au L;generalize ay:({s3 with heap:=mIJ s3.heap.push}:Shared)=s4 at ar⊢;have az:G 0 s4.heap:=T.keep _ _ _ aq λb _ o e=>(by rw[<-ay];exact rH Av1 jA);have stat:∀{a0:St}{H':Hp}{s':Shared},Inv aBw [] a0 H' s'-> aLq ->∀b∈B,Gr aBw [] H' b:=λ{a0 H' s'}N O b hb=>
  (nJ O,(nJ N.ok.QA).1,nJ N.ok.O9,mH hb,λx c e=>(nJ N.ok.QA).2 x c e,λp hp=>aSh)
 have loop:codeAny bM X.A (.compLoop aCF 0 iZ hL ce) aSk s4:=by
  refine AiV (λn s'=>∃i H',aSl /\G i s'.heap/\ aLq /\W i n H') ?_ m0 (60,M,ar,az,au,al);rintro n s5 ⟨i,U,a1,a2,n5,a3⟩;rcases turn i n U a3 with⟨stop,a4⟩|⟨go,a5,a6,step⟩
  .have td:=T.done aBw rfl rfl rfl hc i [] s5 _ U aLo a1 (stat a1 n5) a2 stop;refine MG td λr a7 (a8,Y)=>?_;subst a8;have a9:Inv X pins σ U a7:=an.Ah0 (ch:=B) Y.os Y.base Y.Av Y.DM λb hb=>((nJ L).1.2.2.2.1,(nJ L).1.2.1,(nJ L).1.2.2.2.2.1,(nJ L).1.2.2.2.2.2);have ba:nA U s3.heap.objs.size:=by
    have z:nA U ce.locals:=Y.free;rw[aw] at z;exact z
   obtain⟨m,O,_⟩:=Y.EX;have O:a7.heap.Ns ce.locals m:=O;rw[aw] at O;exact af D s3.heap.objs.size a7 m U a9 a4 O (an.Hx aF ba)
  have bb:=T.item aBw rfl rfl rfl hc i [] s5 _ U aLo a1 (stat a1 n5) a2 go;refine MG bb λr a7 (u,a8,h6)=>?_;subst a8;refine MG h6 λ_ bc (x,bd,a9,be,bf,bg,bh)=>?_;refine MG (pg _ bc _ bd x u _ (a9.Yx (stat a9 bh) (mC T.obj bg)) be (step x bd bf)) λ_ bi (bj,bk,bl,bm,bn)=>?_;refine MG (pt _ bi bj bk _ bl bn) λb bo (bp,bq,br)=>?_;have fin:∀{s':Shared}{H':Hp},Inv aBw ([]++OI B bc.heap) bj H' s'->a5 H'->∃m,m<n/\∃i H',aSl /\G i s'.heap/\ aLq /\W i m H':=λ{s' H'}N nx=>by
   obtain⟨bs,hm,bt⟩:=a6 H' nx;have bu:∀b∈B,∀o,bc.heap.get? b=aH ->s'.heap.get? b=aH /\ eN=none:=λb hb o e=>
    let z:=N.FH (b,o,) aKG
    (z.1,z.2.1)
   refine(bs,hm,i+1,H',(N.QH (pins:=[])).Ahz (mBT bm UF) (λj v e=>?_),mMg bg (bu b hb o e).1,fM,bt)
   .rw[<-bm] at e;exact(UG e).1
   obtain⟨o,e,_⟩:=mIi bg;exact(bu b hb o e).2
  cases b with
  |false=>
   simp at br⊢;exact fin bq br
  |true=>
   simp at br⊢;refine MG (as _ bo bj bp _ bq br) λz bv (bw,bx,bz,b0,acc,b1,b2,nx)=>?_;exact AiU (X:=aBw) bz b1 b2 b0 λb3 b4=>fin b4 nx
 exact codeAny_compStart_list loop (T.self X.A 0 _ _ _ az loop)
theorem Dk(hc:fN)(j:X.N.Nodup)(hi:mFg n)(ok:aGO)
 (hg:mIK PG tg g) (B:mIK OQ ifs tt)
 (he:mIK PE elt te) (hs:aGr:=by intro _;rfl):
 PE X aCF (UH n g tt te aEt):=by
 intro pins s σ H Q G h;rw[eval_ListComp];refine Zl hc j G hi ok hg B he hs h λD C s' m H' I q J f=>(m,J,λL M=>?_);obtain⟨f0,f1,f2,N,f4,O⟩:=f;exact(hL,H',I.DN (t':=s'.toks) (mFL M.2) f0 f1 N f4 O,2,q)
theorem HD(hc:fN)(j:X.N.Nodup)(hy:X.N[i]? =mB y)(n:mDb y=lB)
 (B:swapsWith aCF (mB aLr) G.line X.env=pure true) (hi:mFg I) (ok:aGO)
 (hg:mIL PG tg g) (M:mIL OQ ifs tt)
 (he:mIL PE elt te) (hs:aGr:=by intro _;rfl):
 PS X (.Assign [aLr] aCF G) (OG (UH I g tt te aEt) (EY i)):=by
 intro pins s σ H D N h;rw[rH exec_Assign_Name_used B];refine mZ (wpAny_standAt cG);have h:=h;refine ArZ (A5 (Zl (Qf:=λ_ s'=>SP X pins D .next s') hc j N hi ok hg M he hs h λL C s' m H' O q U f=>?_) λ_ s' hq=>oA Asg hq);refine wpAny_assign_Name (Yk (v:=nC L) O j hy (mH n) rfl (λs2 Y (a,aa,ha)=>?_) (mI n));obtain⟨f0,f1,f2,ab,f4,ac⟩:=f;have ae:C≠a:=by
  rcases ha with z|z
  .rw[z];exact f1
  exact λe=>f4 y a z e.symm
 exact(m,U.sameBut aa ae,λaf ag=>(_,H',Y.DN (t':=s2.toks) (mFL ag.2) f0 f1 ab f4 ac,q))
theorem HE(hk:env.scope.kind= .function)(hy:env.scope.names.lookup y=lB)(j:oO (py.line==pos.line))
 (ha:pG (scope.names.any λ(n,k)=>n==y&&(k== .local||k== .cell))):swapsWith (.ListComp elt q scope pos) (mB aLr) l env=pure true:=by
 have ky:env.kindOf y=some .local:=hy;have hb:env.blockKind= .function:=(by unfold Env.blockKind;rw[hk];rfl);unfold swapsWith;simp only[hb,ky,ha,Expr.pos,j];rfl
end
def BV(N:bZ)(sc scope:Scope)(own:yX Nat):Bool:=
 (match scope.kind with| .function=>true|_=>false)&&(scope.names.all λy=>decide (wD y.1=mB y.2))&&(own.all λp=>decide (N[p.2]? =mB p.1))&&
  (scope.names.all λy=>match y.2 with
   | .free=>(match sc.names.lookup y.1 with|some .cell=>true|some .free=>true|_=>false)
   | .local=>decide (y.1∈ aLk)||decide (y.1∉N)
   | .cell=>decide (y.1∈ aLk)||decide (y.1∉N)
   |_=>true)
theorem BZ(h:BV N sc scope own=true):OP N sc scope own:=by
 unfold BV at h;simp only[Bool.and_eq_true,List.all_eq_true,decide_eq_true_eq] at h;obtain⟨⟨⟨h1,h2⟩,j⟩,h4⟩:=h;refine(5,h2,j,λy hy e=>?_,λy hy e=>?_)
 .split at h1
  .assumption
  cases h1
 .have q:=h4 y hy;simp only[e] at q;split at q<;>first|exact mH aSm|exact mI aSm|cases q
 have q:=h4 y hy;rcases e with e|e<;>(simp only[e,Bool.or_eq_true,decide_eq_true_eq] at q;exact q)
end L2
namespace L2
open PySem PySem.Spec PyProof.Rows
section
variable {prog:Program} {w:World} {A:Around} {R:mEU Result} {s:Shared} {elt t0 i0 t1 i1:Expr} {ifs0 ifs1:hW} {scope:Scope} {pos:Pos} {it acc:Value} {env:Env}
end
section
variable {X:Cx}
end
end L2
namespace L2
open PySem PySem.Spec PyProof.Rows
section
variable {κ:Type} [mDw κ]
def Bc(kvs:fI)(k:κ):Option V:=(kvs.find? λj=>decide (j.1=k)).map (·.2)
def Dy(kvs:fI)(k:κ)(v:V):List (κ×V):=
 if aGS=true then kvs.map (λj=>if j.1=k then(j.1,v,) else j) else kvs++[(k,v,)]
theorem AiW:xN ([]:fI) k:=rfl
theorem FO{p:κ×V}{r:fI}{k:κ}(e:p.1=k):Bc jC k=some p.2:=by simp[Bc,List.find?_cons,e]
theorem FP{p:κ×V}{r:fI}{k:κ}(e:¬p.1=k):Bc jC k=Bc r k:=by simp[Bc,List.find?_cons,e]
theorem MH(k:κ):∀kvs:fI,aGS=jD.isSome
 |[]=>rfl
 |p::r=>by
  rw[Ata];by_cases e:p.1=k
  .simp only[FO e,decide_eq_true e,Bool.true_or,Option.isSome_some]
  rw[FP e,mS e,Bool.false_or];exact MH k r
theorem Zm(k j:κ)(y:V):∀kvs:fI,Bc (kvs.map λn=>if n.1=k then(n.1,y,) else n) j=(Bc kvs j).map λx=>if j=k then y else x
 |[]=>rfl
 |p::r=>by
  have q:=Zm k j y r;rw[Asn];by_cases h:p.1=k
  .rw[fZ];by_cases e:p.1=j
   .rw[mFM FO p.1,FO e,AuU,mK (e.symm.trans h)]
   rw[mFM FP p.1,FP e,q]
  rw[gM];by_cases e:p.1=j
  .rw[FO (p:=p) e,FO e,AuU,mAD h (e.trans z)]
  rw[FP (p:=p) e,FP e,q]
theorem OR(k j:κ)(y:V):∀kvs:fI,jD=none->Bc (kvs++[(k,y,)]) j=if j=k then mB y else Bc kvs j
 |[],_=>by
  by_cases e:k=j
  .rw[vG mK];exact mFM FO k
  rw[aLs];exact mFM FP k
 |p::r,n=>by
  rw[At8];have hk:¬p.1=k:=λz=>(by rw[FO z] at n;cases n);rw[FP hk] at n;by_cases e:p.1=j
  .rw[FO e,FO e,mAD hk (e.trans z)]
  rw[FP e,FP e,(OR k j y r n)]
theorem MI(kvs:fI)(k j:κ)(y:V):Bc aLt j=if j=k then mB y else Bc kvs j:=by
 unfold Dy;by_cases a:(kvs.any λn=>decide (n.1=k))=true
 .rw[mK a,Zm];rw[MH] at a;by_cases e:j=k
  .obtain⟨x,hx⟩:=Awn.mp a;rw[bU,e,hx,AuU,bE]
  rw[bN]
  cases Bc kvs j with
  |none=>rfl
  |some x=>rw[AuU,bN]
 rw[mM a];refine OR k j y kvs ?_;rw[MH] at a
 cases q:jD with
 |none=>rfl
 |some x=>rw[q] at a;exact(a rfl).elim
theorem Jo(kvs:fI)(k:κ)(v:V):aCG.length<=kvs.length+1:=by
 unfold Dy;split
 .rw[ArX];omega
 rw[Asi,As1,AuV];omega
theorem MJ{kvs:fI}{k:κ}(v:V)(h:jD=none):aCG=kvs++[(k,v,)]:=by unfold Dy;rw[MH,h];exact bS
theorem EJ.UI(r:EJ o u):o.isSome=u.isSome:=by
 cases o with
 |none=>cases u with
  |none=>rfl
  |some _=>exact aCx.elim
 |some _=>cases u with
  |none=>exact aCx.elim
  |some _=>rfl
theorem EJ.getD(r:EJ o u)(j:AJ d d'):AJ (o.getD d) (u.getD d'):=by
 cases o with
 |none=>cases u with
  |none=>exact j
  |some _=>exact aCx.elim
 |some _=>cases u with
  |none=>exact aCx.elim
  |some _=>exact r
theorem KV.val{kvs:fI}{vs:aKb}(r:hU)(k:κ):EJ jD (mFN vs):=by
 induction r with
 |nil=>exact True.intro
 |@cons p q ps j h t B=>
  obtain⟨h1,h2⟩:=h;by_cases e:p.1=k
  .have e':=aGT;have b:mFN (q::j)=some q.2:=aSn;rw[FO e,b];exact h2
  have e':¬q.1=k:=λz=>e aGU;have b:mFN (q::j)=valueAt j k:=aSn;rw[FP e,b];exact B
theorem KV.any(r:hU)(k:κ):aGS=vs.any λj=>decide (j.1=k):=by
 induction r with
 |nil=>rfl
 |cons h t q=>rw[Ata,Ata,q,h.1]
theorem KV.UJ(r:hU)(k:κ)(j:eO):
 KV aSo (mMI vs.map u):=by
 induction r with
 |nil=>exact .nil
 |@cons p q ps I h t J=>
  rw[Asn,Asn];refine .cons ?_ J;obtain⟨h1,h2⟩:=h;by_cases e:p.1=k
  .rw[bU,mK aGT];exact(h1,j)
  rw[bN,mAD e aGU];exact(h1,h2)
theorem KV.CA(r:hU)(k:κ)(j:eO):KV aLt (stored vs k u):=by
 unfold Dy stored;rw[r.any k];by_cases e:(vs.any λq=>decide (q.1=k))=true
 .rw[bU,bU];exact r.UJ k j
 rw[bN,bN];exact Paired.snoc r (mAe j)
theorem KV.length(r:hU):kvs.length=vs.length:=xD r
end
theorem MK(r:sV aAx):(GR P w).is k u=true:=by
 cases k with
 |inl i=>obtain⟨t,e⟩:=aRv;subst e;exact Ahr P w i t
 |inr x=>obtain⟨t,e⟩:=aRw;subst e;exact Ahs P w x t
theorem AiX(e:kV a=kV b):a=b:=by
 cases a with
 |inl i=>cases b with
  |inl j=>have e':mQ i=V.int j:=e;injection e' with e';rw[e']
  |inr y=>exact nomatch (show mQ i=wB y from e)
 |inr x=>cases b with
  |inl j=>exact nomatch (show wB x=mQ j from e)
  |inr y=>have e':wB x=V.str y:=e;injection e' with e';rw[e']
abbrev KT(H:Hp):bH -> aF9 ->Prop:=Paired λp q=>p.1=q.1/\Dv H p.1 q.2.1/\AJ p.2 q.2.2
theorem KT.val{H:Hp}{kvs:bH}{xs:aF9}(r:aCH)(k:Ky):EJ jD aSp:=by
 induction r with
 |nil=>exact True.intro
 |@cons p q ps j h t B=>
  obtain⟨h1,_,h2⟩:=h;by_cases e:p.1=k
  .have e':=aGT;have b:atKey (q::j) k=some q.2:=aSq;rw[FO e,b];exact h2
  have e':¬q.1=k:=λz=>e aGU;have b:atKey (q::j) k=atKey j k:=aSq;rw[FP e,b];exact B
theorem KT.UJ(r:aCH)(k:Ky)(j:eO):
 KT H aSo (xs.map (putAt k u)):=by
 induction r with
 |nil=>exact .nil
 |@cons p q ps I h t J=>
  rw[Asn,Asn];refine .cons ?_ J;obtain⟨h1,h2,L⟩:=h;unfold putAt;by_cases e:p.1=k
  .rw[bU,mK aGT];exact(mO h1 h2 j)
  rw[bN,mAD e aGU];exact(mO h1 h2 L)
theorem KT.CA(r:aCH)(k:Ky)(hb:mAk b)(j:eO):
 KT H aLt (storedH xs k b u):=by
 have e:(kvs.any λz=>decide (z.1=k))=aBx.isSome:=by rw[MH,(r.val k).UI,Option.isSome_map]
 unfold Dy storedH;rw[e];by_cases q:aBx.isSome=true
 .rw[mK q,mK q];exact r.UJ k j
 rw[mM q,mM q];exact Paired.snoc r (mO rfl hb j)
theorem KT.keeps(r:aCH)(j:∀b ys,H b=oI ys-> eN=oI ys):KT H' kvs xs:=
 Paired.TV r λ_ _ z=>(mLQ j)
section
variable {P:Program} {w:World} {H:Hp} {h:Heap} {a:Addr}
theorem UK(ok:gC)(e:tR u):C9 P w H h a u:=e.ok ok
theorem Jp(ok:gC)(e:tR aBy):aSr:=
 show mAm aBy from UK ok e
theorem AiY(ok:gC)(e:H a=aCw):aSr:=Jp ok aAb
theorem AiZ(ok:gC):∀(n:Nat)(k:Ky)(v:V)(u:Value),k.depth<=n->JV H k v-> fH ->EW h k u:=by
 intro n
 induction n with
 |zero=>
  intro k v u hd hk r
  cases k with
  |num i=>
   rcases hk with rfl|⟨b,rfl,rfl⟩
   .exact mH r
   exact mI (yZ b r)
  |Ce x=>
   have j:=hk;subst j;exact r
  |Al l=>simp[Ky.depth] at hd
 |succ n q=>
  intro k v u hd hk r
  cases k with
  |num i=>
   rcases hk with rfl|⟨b,rfl,rfl⟩
   .exact mH r
   exact mI (yZ b r)
  |Ce x=>
   have j:=hk;subst j;exact r
  |Al l=>
   obtain⟨a,vs,rfl,h1,h2⟩:=hk;obtain⟨_,its,z,o,g1,g2,m,g3⟩:=(show mAm (.Al vs) from ok a _ h1);refine(a,o,its.toArray,m,r,g1,g2,g3,5);have all:∀(l:iU)(vs:aK)(us:aT),aDY <=n->Ld H l vs->qO vs->Ht h l us:=by
    intro l
    induction l with
    |nil=>
     intro vs us _ e B;subst e
     cases B
     rfl
    |cons k ks D=>
     intro vs us hd2 e B;obtain⟨v,G,rfl,I,p2⟩:=e
     cases B with
     |cons J L=>
      have M:mBr ks:=aF7;exact(3,q k v _ M.1 I J,D G _ M.2 p2 L)
   simpa using all l vs its aBa h2 z
theorem Il(ok:gC)(e:mAk a):aCo.is h k a:=(AiZ ok 8 k _ _ e.2 e.1 rfl,e.2)
theorem Kk(ok:gC)(e:tR aEv):kvs.length<=sizeLine/\ aBd=false/\
 ∃xs,aCH /\h.DictOfH aCo a xs:=by
 obtain⟨z,y,xs,r,o,es,ep,h1,h2,j,h4,n⟩:=(mMJ aEv);refine(z,y,xs,r,o,68,h1,h2,j,h4,dY,n);have all:∀{l:bH}{m:aF9},KT H l m->∀x∈m,aCo.is h x.1 x.2.1:=by
  intro l m q
  induction q with
  |nil=>intro x hx;exact nomatch hx
  |@cons p q ps B hq t D=>
   intro x hx;rcases pN hx with e|hx
   .subst e;exact Il ok (uJ hq.1 hq.2.1)
   exact oY D
 exact all r x hx
theorem Zn(ok:gC)(e:H a=aCA):kvs.length<=sizeLine/\ aBd=false/\
 ∃xs,aCH /\h.DictOfH aCo a xs:=Kk ok aAb
end
def E8(H:Hp)(a:Addr)(y:V)(r:bO):Prop:=
 (∃kvs k,tR aBy /\y=aAx /\r=jD)\/∃kvs k b,tR aEv /\y= bW /\mAk b/\r=jD
def HF(H:Hp)(a:Addr)(y v:V)(H':Hp):Prop:=
 (∃kvs k,H a=aCw /\y=aAx /\kvs.length<sizeLine/\H'=aSs)\/
 ∃kvs k b,H a=aCA /\y= bW /\mAk b/\kvs.length<sizeLine/\H'=aSt
theorem E8.k{H:Hp}{a:Addr}{kvs:hT}{k:C3}(e:H a=aCw):E8 H a aAx jD:= mH (kvs,k,aAb,29)
theorem E8.t{k:Ky}(e:H a=aCA)(j:mAk b):E8 H a bW jD:= mI (kvs,k,b,aAb,2,j,2)
theorem HF.k{H:Hp}{a:Addr}{kvs:hT}{k:C3}{v:V}(e:H a=aCw)(j:aSu):HF H a aAx v aSs:= mH (kvs,k,e,2,j,2)
theorem HF.t{k:Ky}(e:H a=aCA)(j:mAk b)(q:aSu):
 HF H a bW v aSt:= mI (kvs,k,b,e,2,j,q,2)
section
variable {X:Cx} {pins:bA} {σ:St} {H:Hp} {s:Shared} {a:Addr} {y v:V} {u r:Value} {o:bO} {A:Around} {E:bK}
theorem Inv.Kl(j:aE):yP sysModules:=by exact Nat.lt_trans bB ((j.mod.Jh.keeps j.bk).lt)
theorem ML(hu:lG):aCo.room A.in1:=by show A.units+1+8<cLine;omega
theorem Ai_(hu:lG)(j:aE)(g:E8 H a y bJ)(n:eO)(h:mMK v):
 wpAny bM A (getItem aI u) Q E s:=by
 rcases g with⟨kvs,k,e,B,l⟩|⟨kvs,k,b,e,B,D,l⟩
 .subst B;obtain⟨z,hd,vs,rel,dd⟩:=aBz;obtain⟨q,hw,G⟩:=EJ.Uq (v:=v) (o:=mFN vs) aSv;exact wpAny_getItem_of aEw dd.mapOf hw (h q _ fO G)
 subst B
 cases aEx
 obtain⟨z,hd,xs,rel,dd⟩:=aCI;obtain⟨q,hw,G⟩:=EJ.Uq (v:=v) (o:=aSp) aSv;obtain⟨p,hp,I⟩:=mMG hw;refine wpAny_getItem_heap (ML hu) (Il j.Av D) dd hp ?_;rw[I];exact h q _ fO G
theorem Aja(hu:lG)(j:aE)(g:xO H)(n:eO)(h:∀s',sI H s'->Q (.bool (!o.isSome)) s'):
 wpAny bM A (compareOp .NotIn u aI) Q E s:=by
 rcases g with⟨kvs,k,e,B,l⟩|⟨kvs,k,b,e,B,D,l⟩
 .subst B;obtain⟨z,hd,vs,rel,dd⟩:=aBz;refine wpAny_notIn_of aEw hd dd.mapOf ?_;rw[<- lI.UI,<-l];exact h _ fO
 subst B
 cases aEx
 obtain⟨z,hd,xs,rel,dd⟩:=aCI;refine wpAny_notIn_heap (ML hu) (Il j.Av D) hd dd ?_;have q:=lI.UI;rw[Option.isSome_map] at q;rw[<-q,<-l];exact h _ fO
theorem OS(j:aE)(n:JW (H a))(hs:yQ a)(he:∃q,qG a=dA)(new:mE6 a B):
 Inv X pins σ (nX a B) {s with heap:=h',toks:=t'}:=
 j.Ib (x:=a) (e:=a) n aZ (mMq hs.2) he new
theorem Zo(z:pX kvs.length)(hd:pG aBd)(rel:hU)(dd:h'.DictOf (GR P w) a vs):
 C9 P w H' h' a aBy:=(z,hd,vs,rel,dd)
theorem Ajb(hu:lG)(j:aE)(g:mIM v)(n:eO)(B:AJ v r)(h:∀s',aBf ->Q () s'):
 wpAny bM A (setItem aI u r) Q E s:=by
 rcases g with⟨kvs,k,e,D,l,G⟩|⟨kvs,k,b,e,D,I,l,G⟩
 .subst D G;obtain⟨z,hd,vs,rel,dd⟩:=mAw AiY;have hz:pX vs.length:=(uJ rel.length z);have J:pX aCG.length:=(mFO kvs k v);refine wpAny_setItem_pairs (hsz:=hz) aEw dd λh' L hs=>h _ ?_;exact OS j aGx hs (let(q,_,_,hq,_):=L;(q,hq)) (Zo J hd (rel.CA k B) L)
 subst D G
 cases aEx
 obtain⟨z,hd,xs,rel,dd⟩:=mAw Zn;have hz:pX xs.length:=(by rw[<-xD rel];exact z);have J:pX aCG.length:=(mFO kvs k v);refine wpAny_setItem_heap (hsz:=hz) (ML hu) (Il j.Av I) dd λh' L hs=>h _ ?_;obtain⟨q,es,ep,hq,h2,M,h4,_,N⟩:=L;refine OS j aGx hs (q,hq) (J,hd,_,(rel.CA k I B).keeps λc ys O=>?_,q,68,hq,h2,M,h4,N);rw[Ah (mBU O e)];exact O
end
section
variable {X:Cx} {pins:bA} {σ:St} {H:Hp} {s:Shared} {a:Addr} {kvs:hT} {k:C3} {u:Value} {A:Around} {E:bK}
theorem Ajc(j:aE)(e:tR aBy)(h:∀t s',sI H s'->Q (.int kvs.length t) s'):wpAny bM A (uQ "len" cP) Q E s:=by obtain⟨z,hd,vs,rel,dd⟩:=aBz;refine call_len_dict hd dd (by rw[<-rel.length];rw[AuP] at z;omega) ?_;rw[<-rel.length];exact mC h fO
end
def Zp(i:Expr):Prop:=∀j iv,mIA i j iv=mIB j iv
theorem Ajd{T id:String}
 (j:aRP=pure aK5) (hs:Zp slice)
 (h:xE bC (xK value) (λo n=>xE bC (xK slice) (λi q=>q.TypeIs o T/\xE bC (getItem o i) Q q) n) s):
 wpAny bC A (xK (mFw value slice)) Q E s:=by
 refine Subscript_ (AtL h (λo n z=>AtL z (λi q B=>?_) λ_ _ x=>x) λ_ _ x=>x);obtain⟨D,B⟩:=B;refine cG;rw[getitemInPython_of_ne D.not_modules];refine pO Au1 D j;have fin:wpAny bC A (mIA slice o i) (λr G=>xE bC (letTemporaryGo value o r >>= λ_=>pure r) Q G) E q:=by rw[hs o i];exact wpAny_operating (AtL B (λr G I=>yN wpAny_letTemporaryGo I) λ_ _ x=>x)
 first
  |exact Asg (mZ fin)
  |exact sU (mZ fin)
  |exact mZ fin
theorem Aje(j:aE)(g:xO H):s.TypeIs aI "dict":=by
 rcases g with⟨kvs,k,e,_,_⟩|⟨kvs,k,b,e,_,_,_⟩
 .obtain⟨_,_,vs,_,dd⟩:=aBz;exact dd.typeIs
 obtain⟨_,_,xs,_,dd⟩:=aCI;exact dd.typeIs
def Zq(td ty:TE):TE:=λσ H Q=>td σ H λx H1=>ty σ H1 λy H2=>∃a v,x= aI /\E8 H2 a y bJ /\Q v H2
def Ajf(ty td:TE):TE:=λσ H Q=>ty σ H λy H1=>td σ H1 λx H2=>∃a o,x= aI /\xO H2/\Q (.bl (!o.isSome)) H2
def Ajg(td ty tv:TE):TS:=λD σ H=>tv σ H λv H1=>td σ H1 λx H2=>ty σ H2 λy j=>∃a n,x= aI /\HF j a y v n/\sX n
section
variable {X:Cx} {o i e value:Expr} {pos pos' tpos:Pos} {td ty tv:TE}
theorem Lr(hu:lJ)(j:aEy)(hi:nR i ty)(hs:Zp i):PE X aKx (Zq td ty):=by intro pins s σ H Q n h;refine Ajd PySem.F.slot_dict_getitem.lookup hs (A5 aEc λu s1 (x,H1,q,z,B)=>A5 (rT hi q B) λiv s2 (y,H2,D,G,a,v,ex,g,I)=>?_);subst ex;obtain rfl:tU a:=z;exact(Aje D g,Ai_ hu D g G λJ s3 L M=>(v,H2,L,M,I))
theorem Zr(hu:lJ)(hi:nR i ty)(j:aEy):PC X .NotIn i o (Ajf ty td):=by intro pins s σ H Q n h;refine A5 (oQ hi n) λiv s1 (y,H1,q,z,B)=>A5 (rT j q B) λu s2 (x,H2,D,G,a,I,ex,g,J)=>?_;subst ex;obtain rfl:tU a:=G;exact Aja hu D g z λs3 L=>(.bl (!I.isSome),H2,L,2,J)
theorem Ls(hu:lJ)(j:aEy)(hi:nR i ty)(n:aK2)(hs:mH9 value (mIb pos')):
 PS X (mFd [mIb pos'] value) (Ajg td ty tv):=by
 intro pins s σ H D q h;refine wpAny_Assign_Subscript (A5 (oQ n q) λr s1 (v,H1,z,B,G)=>A5 (rT j z G) λu s2 (x,H2,I,J,L)=>A5 (mIx hi I) λiv s3 (y,aa,M,N,a,O,ex,g,U)=>?_) hs;subst ex;obtain rfl:tU a:=J;exact Ajb hu M g N B λs4 Y=>(σ,O,Y,U)
end
theorem Ajh(h:Heap)(hb:mEZ sysModules):C9 P w H (mDu h.push) h.objs.size jE:=
 (aR,aSw,[],.nil,Heap.DictOf.new h)
theorem Zs(h:Heap)(hb:mEZ sysModules):C9 P w H (mDu h.push) h.objs.size iD:=
 (aR,aSw,[],.nil,_,#[],60,eQ,aSx,29,Auw)
def Aji:TE:=λ_ H Q=>∀p,H p=none->mBI H jE
def Ajj:TE:=λ_ H Q=>∀p,H p=none->mBI H iD
section
variable {X:Cx} {pos:Pos}
theorem OT:PE X aSy Aji:=λpins s σ H Q j h=>
 mML jE Ajh
theorem OU:PE X aSy Ajj:=λpins s σ H Q j h=>
 mML iD Zs
end
structure M1(X:Cx)(o:Expr)(m:Str)(apos:Pos)(e:Expr)(cpos:Pos):Prop where
 base:aSz=eval o X.env
 AA:((mAA [e]).all aGJ&&aLd
  &&decide (([e]:hW).length+([]:aEn).length+aGK<30))=true
 line:aSA=true
 Rl:mAA [e]=[(false,oU e,)]
structure M2(X:Cx)(o:Expr)(m:Str)(apos:Pos)(e f:Expr)(cpos:Pos):Prop where
 base:aSz=eval o X.env
 AA:((mAA [e,f]).all aGJ&&aLd
  &&decide (([e,f]:hW).length+([]:aEn).length+aGK<30))=true
 line:aSA=true
 Rl:mAA [e,f]=[(false,oU e,),(false,oU f,)]
def Rm(H:Hp)(a:Addr):Prop:=(∃kvs,tR aBy)\/∃kvs,tR aEv
theorem UL(j:aE)(d:Rm H a):
 s.TypeIs aI "dict"/\(∀b,rE a= bW ->∃n,nU b=mB n/\n.dict=none)/\ aBd=false:=by
 rcases d with⟨kvs,e⟩|⟨kvs,e⟩
 .obtain⟨_,hd,vs,_,dd⟩:=aBz;refine aSB
  cases q
  obtain⟨n,_,_,h1,h2,_⟩:=dd;exact aSC
 obtain⟨_,hd,xs,_,dd⟩:=aCI;refine aSB
 cases q
 obtain⟨n,_,_,h1,h2,_⟩:=dd;exact aSC
section
variable {X:Cx} {pins:bA} {σ:St} {H:Hp} {s:Shared} {a:Addr} {y d:V} {u r:Value} {o:bO} {A:Around} {E:bK}
theorem Ajk(hu:lG)(j:aE)(g:xO H)(n:eO)(h:mMK (o.getD .Ax)):
 wpAny bM A (uQ "dict.get" [aI,u]) Q E s:=by
 rcases g with⟨kvs,k,e,B,l⟩|⟨kvs,k,b,e,B,D,l⟩
 .subst B;obtain⟨z,hd,vs,rel,dd⟩:=aBz;refine mFP aSD (meets_dict_get aEg a aEw hd) aSE;rw[l];exact lI.getD rfl
 subst B
 cases aEx
 obtain⟨z,hd,xs,rel,dd⟩:=aCI;refine mFP aSD (meetsH_dict_get aGV a b hd) (mMM D);rw[l];exact lI.getD rfl
theorem Ajl(hu:lG)(j:aE)(g:xO H)(n:eO)(q:AJ d r)(h:∀B s',sI H s'->AJ (o.getD d) B->Q B s'):
 wpAny bM A (uQ "dict.get" [aI,u,r]) Q E s:=by
 rcases g with⟨kvs,k,e,D,l⟩|⟨kvs,k,b,e,D,G,l⟩
 .subst D;obtain⟨z,hd,vs,rel,dd⟩:=aBz;refine mFP aSF (meets_dict_get_default aEg a aEw hd r) aSE;rw[l];exact lI.getD q
 subst D
 cases aEx
 obtain⟨z,hd,xs,rel,dd⟩:=aCI;refine mFP aSF (meetsH_dict_get_default aGV a b hd r) (mMM G);rw[l];exact lI.getD q
end
def Ajm(td ty:TE):TE:=λσ H Q=>td σ H λx H1=>∃a,x= aI /\Rm H1 a/\ty σ H1 λy H2=>∃o,xO H2/\Q (o.getD .Ax) H2
def Zt(td ty tx:TE):TE:=λσ H Q=>td σ H λx H1=>∃a,x= aI /\Rm H1 a/\ty σ H1 λy H2=>tx σ H2 λz j=>∃o,xO j/\Q (o.getD z) j
section
variable {X:Cx} {o e f:Expr} {apos cpos:Pos} {td ty tx:TE}
theorem Ajn(hu:lJ)(j:aEy)(he:nR e ty)(m:M1 X o "get" apos e cpos):PE X (mMN [e]) (Ajm td ty):=by intro pins s σ H Q n h;refine mMO (A5 aEc λu s1 (x,H1,q,z,a,ex,d,B)=>?_);subst ex;obtain rfl:tU a:=z;obtain⟨t1,D,_⟩:=UL q d;refine(rF t1 D);rw[m.Rl];refine mBR (Auv (At7 (A5 (rT he q B) λiv s2 (y,H2,G,I,J,g,L)=>Aua ?_)));exact Ajk hu G g I λM s3 N O=>(_,H2,N,O,L)
theorem Zu(hu:lJ)(j:aEy)(he:nR e ty)(hf:nR f tx)(m:M2 X o "get" apos e f cpos):PE X (mMN [e,f]) (Zt td ty tx):=by
 intro pins s σ H Q n h;refine mMO (A5 aEc λu s1 (x,H1,q,B,a,ex,d,D)=>?_);subst ex;obtain rfl:tU a:=B;obtain⟨t1,G,_⟩:=UL q d;refine(rF t1 G);rw[m.Rl];refine Ato rfl (Auv (At7 (A5 (rT he q D) λiv s2 (y,H2,I,J,L)=>
  At7 (A5 (mIx hf I) λaa s3 (z,M,N,O,ab,g,U)=>Aua ?_))))
 exact Ajl hu N g J O λac s4 Y ae=>(_,M,Y,ae,U)
end
end L2
namespace L2
open PySem PySem.Spec PyProof.Rows
theorem Ajo:mBV "reversed":=by decide+kernel
section
variable {X:Cx} {pins:bA} {σ:St} {H:Hp} {s:Shared} {h':Heap}
theorem Inv.Zv{ch:aP}(j:aE)(k:aSG)(hf:∀b∈ch,aEd):mBy H:=by
 have B:aSH:=λb u e z=>by have q:=(hf b z).1;rw[q] at e;cases e
 refine j.step (g':=s.gens) (d':=s.drawn) (ch:=ch) (mAu aSI) (mH3 hc) (mH4 hc)
  (λ_ _ _ _ n=>n) aSJ aGi aQr aQs aKm aKn j.DM
 .obtain⟨o,es,ep,I,r⟩:=hm;exact(mMP I)
 refine aKo.Ia aKp aGa λ_ _ q=>q;rcases hc with z|z
 .rw[z];exact B b u e
 exact B c _ z
theorem Inv.OV{ch:aP}(j:aE)(k:aSG)(hf:∀b∈ch,aEd)(B:mE2 T)
 (new:mE6 T I):mBy (nX T I):=by
 have J:=j.Av.BC B;have L:aSH:=λb u e z=>by have q:=(hf b z).1;rw[q] at e;cases e
 refine j.step (g':=s.gens) (d':=s.drawn) (ch:=ch) (mAu aSI) (mH3 hc) (mH4 hc)
  (λb o _ e n=>?_) aSJ (λb xs e=>?_) (λb o u e=>?_) (λb ps e=>(oH #[])) aKm aKn j.DM
 .rw[Ah (mC1 e B)];exact n
 .rw[nZ J];exact e
 .rw[nZ J];exact e
 .rw[nZ J,e];simp
 .obtain⟨o,es,ep,M,r⟩:=hm;exact(mMP M)
 by_cases hb:b=T
 .subst hb;rw[Af] at e
  cases e
  exact new
 rw[hD] at e;refine aKo.Ia aKp (λc q=>by rw[mAn J];exact q) λc xs q=>(mC0 mAn J q);rcases hc with z|z
 .rw[z];exact L b u e
 exact L c _ z
theorem Inv.Ajp(j:aE)(h:H d=aM)(B:JW aM):∃od,Inv X pins σ aLu s:=by
 have x:=j.Av d u h;have ex:∃od,nU d=some od:=by
  cases u with
  |Ac xs=>obtain⟨_,_,_,_,e⟩:=x;exact aGG
  |dK kvs=>obtain⟨_,_,_,_,o,_,_,e,_⟩:=x;exact(o,e)
  |dT kvs=>obtain⟨_,_,_,_,o,_,_,e,_⟩:=x;exact(o,e)
  |set S n=>obtain⟨o,_,_,_,e,_⟩:=x;exact(o,e)
  |Ag C dx fs=>obtain⟨_,_,_,e,_⟩:=x;exact aGG
  |ext I=>obtain⟨_,⟨_,e⟩,_⟩:=x;exact aGG
  |_=>exact sH B
 obtain⟨od,e⟩:=ex;have new:C9 X.prog X.w aLu s.heap d (.Bw od u):=by
  refine(e,x.Ia aSK (λb q=>?_) λb xs q=>?_)
  .rw[aSL];exact q
  rw[aSL];exact q
 exact(od,j.Ib (x:=d) (e:=d) (t':=s.toks) (h':=s.heap) (oD h B) aZ aSK (od,e) new)
theorem Inv.Rn(j:aE)(h:H d=aM)(z:JW aM):∀o' u',X.Le d≠some (.Bw o' u'):=λo' u' e=>by
 have q:=j.base.F1 d o' u' e;rw[h] at q
 cases q
 exact z
theorem Inv.Ro(j:aE)(h:H d=sW od u)(B:∀o' u',X.Le d≠sW o' u'):Inv X pins σ (nX d u) s:=by
 have I:∀b o,H b=aH ->(∀o' u',o≠ .Bw o' u')->b≠d:=λb o e J z=>by
  rw[z,h] at e
  cases e
  exact mC J rfl
 have neN:mE0 d:=λb e z=>(mBz z h);refine(j.ok,j.os,j.DM,(j.base.keep,j.base.slot,aQn,j.base.there,λb xs e=>?_,λb o x e=>?_,λb ps e=>?_),j.EX,j.cell,5,aKk,hE,aLv,j.len)
 .rw[Ah (neN b aD4)];exact aD4
 .have q:=aQo;rw[mBW b];exact q
 .have q:=j.base.F1 b o x e;rw[Ah (λz=>by rw[z] at e;exact mC B e)];exact q
 .obtain⟨m,q⟩:=aQq;exact(m,by rw[mBW b];exact q)
 .rw[Ah (neN _ j.free)];exact j.free
 .rw[Ah (neN c aGh)];exact aGh
 .obtain⟨e,n,r⟩:=rC j.FH;exact(e,by rw[Ah (neN _ n)];exact n,r)
 by_cases hb:b=d
 .rw[hb,Af] at e
  cases e
  rw[hb];obtain⟨_,x⟩:=xJ d h;exact x.Ia aSM (λc q=>by rw[mBW c];exact q) λc xs q=>(wG mBW c q)
 rw[hD] at e;exact(pQ j.Av).Ia aSM (λc q=>by rw[mBW c];exact q) λc xs q=>(wG mBW c q)
end
def Zw(t:TS):TS:=λD σ H=>∃d u,H d=aM /\JW aM /\∀od,t (mIN D.nx,λv H'=>H' d=sW od u/\D.rt v (Aa H' d u),mIN D.bk,mIN D.ct) σ aLu
section
variable {X:Cx}
theorem Rp{st:Stmt}(h:PS X st t):PS X st (Zw t):=by
 intro pins s σ H D j hw;obtain⟨d,u,hd,n,hw⟩:=hw;obtain⟨od,z⟩:=j.Ajp hd n;refine A5 (h pins s σ _ _ z (hw od)) λf s1 q=>?_
 cases f with
 |next=>obtain⟨B,H',G,e,q⟩:=q;exact aLw
 |brk=>obtain⟨B,H',G,e,q⟩:=q;exact aLw
 |cont=>obtain⟨B,H',G,e,q⟩:=q;exact aLw
 |ret v=>obtain⟨x,B,H',G,r,e,q⟩:=q;exact(x,142,r,q)
theorem Lu(j:aE)(o:Obj)
 (T:F3 X.prog X.w X.K tg J aSN s.heap.objs.size n) (st:n 0 (s.heap.push o)) (q:R J H):Ug X pins σ tg R eP {s with heap:=s.heap.push o,toks:=tk}:=by
 refine(s.heap.objs.size,aSN,n,J,H,2,j.CF λb z e=>jA,T,st,fM,q);have e:mIF b:=cF;subst e;exact j.Hx aF aBq
end
def OW(lo c:Int)(n:Nat):It:=(mL7 aLx)
theorem Ajq{K:PySem.W.Frag}(it:Addr)(lo c:Int)(n:Nat):F3 P w K tg aGW [it] it (mL9 c) where
 mem:=by simp
 obj:=λi h st b hb=>by have e:b=it:=cF;subst e;exact(_,st,λv z=>nomatch z)
 keep:=λi h h' st k=>k it aC _ st
 item:=by intro X j hw q hc i pins s σ H E B hf st hg;subst j hw q;obtain⟨f0,f1,f2,D,f4,G⟩:=eA;refine(mMa c).item i s _ _ hg st λv h' tk I J L=>?_;obtain⟨t,rfl⟩:=I;exact(0,mMb (mE aLx,H,aQY,aBt,aEa,J,aBi))
 done:=by intro X j hw q hc i pins s σ H E B hf st hg;subst j hw q;obtain⟨f0,f1,f2,D,f4,G⟩:=eA;exact wpAny_pyNext_range_end aEb st (by have:n<=i:=hg;omega) λh' M=>aQZ
 self:=λA i s Q E st h=>aQ0
def Rq(i j c:Int)(n:Nat):Prop:=c≠0/\c.natAbs<1073741824/\Builtin.Range.small i j c=true/\Builtin.Range.rangeSize i j c=n
theorem Rq.neg(ha:-aBj <=i)(q:i<2 ^ 62)(hb:-aBj <=j)(z:j<2 ^ 62):Rq i j (-1) (i - j).toNat:=
 (21,21,PySem.W.small_down ha q hb z,PySem.W.rangeSize_downNat i j)
def Ajr(ta:TA):TI:=λσ H R=>ta σ H λvs H1=>∃(i j c:Int)(n:Nat),vs=[eZ,mE j,mE c]/\Rq i j c n/\R (OW i c n) H1
section
variable {X:Cx} {tg:Expr}
theorem Ajs(hg:aKD)(hm:aKE)(ha:mBF [a,b,c])
 (hs:mAt [a,b,c]=(false,oU a,)::starEach [b,c] X.env:=by rfl) (z:(xL [b,c]).any (·.1)=false:=by rfl):
 PI X tg (yU "range" [a,b,c]) (Ajr ta):=by
 intro pins s σ H R B h;refine AuA (mIh B (mMQ H z));obtain⟨i,j,k,n,e,⟨c0,c1,J,L⟩,q⟩:=I;subst e
 cases G with
 |cons r M=>
  cases M with
  |cons N M=>
   cases M with
   |cons O M=>
    cases M
    obtain⟨t,rfl⟩:=r;obtain⟨t',rfl⟩:=N;obtain⟨aa,rfl⟩:=O;refine call_range_3 c0 ?_ (mH (PyProof.noPylong_small c1));refine mMd J;refine mBX (mIO D.CF) (Ajq _ i k n) ?_;have U:i+((0:Nat):Int)*k=i:=aC;have Y:(n:Int) - ((0:Nat):Int)=Builtin.Range.rangeSize i j k:=(pD L);rw[U,Y];exact eQ
end
theorem Ajt{lo c:Int}{g:TG}{tb:TS}{D:Hv}(Pv:aCs)(h0:uN 0)
 (hs:∀i σ H,i<n->uN i->g (mE aLx) σ H λj H2=>tb {D with nx:=aAr,ct:=aAr,bk:=D.nx} j H2) (hd:mDe n):
 ∃W:aCu,aEe /\∀i m σ H,aCv ->
  (aGW.stop i H/\sX H)\/(aGW.go i H/\∃N:gF,aQ3 /\∀x H',mDf aGW.Fg->g x σ H' λj H2=>tb {D with nx:=N,ct:=N,bk:=D.nx} j H2):=by
 refine(mDg n);rintro i m σ H ⟨rfl,hi,p⟩;by_cases B:i<n
 .refine aQ4;obtain⟨e,y⟩:=y;subst e y;exact hs i σ _ B p
 have e:i=n:=aA;subst e;exact aQ5
def Rr(K:PySem.W.Frag)(a:Addr)(n:Nat):It:=
 (λi H=>i<n/\∃(xs:aK)(x:V),gQ /\xs[n - 1 - i]? =aY,λi H x H'=>H'=H/\∀xs,gQ ->xs[n - 1 - i]? =aY,λi _=>n<=i)
theorem Aju{K:PySem.W.Frag}(a it:Addr)(n:Nat):F3 P w K tg (Rr K a n) [it] it (λi h=>i<=n/\h.IsRevIter it a ((n:Int) - 1 - (i:Nat))) where
 mem:=by simp
 obj:=λi h st b hb=>by have e:b=it:=cF;subst e;obtain⟨_,o,e,c,d⟩:=st;exact aGn
 keep:=λi h h' st k=>(st.1,mIP k it)
 item:=by intro X j hw q hc i pins s σ H E B hf st hg;subst j hw q;obtain⟨D,xs,x,hq,hx⟩:=hg;obtain⟨its,G,p,hz⟩:=B.list hq;obtain⟨u,hu,I⟩:=G.get hx;obtain⟨f0,f1,f2,J,f4,L⟩:=eA;obtain⟨_,hit⟩:=st;have M:(n:Int) - 1 - ((i:Nat):Int)=((n - 1 - i:Nat):Int):=aA;rw[M] at hit;refine wpAny_pyNext_rev_item hit p.isList (x:=u) aCt λh' N O=>?_;have U:((n - 1 - i:Nat):Int) - 1=(n:Int) - 1 - ((i+1:Nat):Int):=aA;rw[U] at N;obtain⟨o,e,c,d⟩:=id N;exact(u,2,mFQ d (x,H,mMR (mFL O.2),I,(mMS B.M6),(D,N),aBi))
 done:=by intro X j hw q hc i pins s σ H E B hf st hg;subst j hw q;obtain⟨f0,f1,f2,J,f4,L⟩:=eA;obtain⟨D,hit⟩:=st;have hge:n<=i:=hg;have M:(n:Int) - 1 - ((i:Nat):Int)= -1:=aA;rw[M] at hit;exact wpAny_pyNext_rev_end aEb hit λh' Y=>(2,mMR (mDx Y hb))
 self:=λA i s Q E st h=>wpAny_pyIter_revIter st.2 h
def Ajv(K:PySem.W.Frag)(ta:TA):TI:=λσ H R=>ta σ H λvs H1=>∃(a:Addr)(xs:aK),vs=cP /\mDy H1 a/\R (Rr K a xs.length) H1
section
variable {X:Cx} {tg:Expr}
theorem Zx(hg:Gl X "reversed")(hm:tS "reversed")(ha:mBF [e])(hs:xH e:=by rfl):PI X tg (yU "reversed" [e]) (Ajv X.K ta):=by
 intro pins s σ H R j h;refine AuA (mAE j Ajo (mDc (A5 (xI H j) λus s1 (vs,H1,n,z,B)=>?_)));obtain⟨a,xs,e,hq,q⟩:=B;subst e
 cases z with
 |cons r D=>
  cases D
  cases r
  obtain⟨its,G,I,hz⟩:=n.list hq;have J:=G.length;have L:((its.toArray.size:Nat):Int) - 1=(xs.length:Int) - 1 - ((0:Nat):Int):=dM;refine call_reversed_list I.isList (wpAny_pyIter_revIter (l:=a) (i:=((its.toArray.size:Nat):Int) - 1) jB ?_);refine mBX n (Aju a _ xs.length) (aR,5);rw[<-L];exact jB
end
def Zy(x:Str):It:=(aSO,λi H v H'=>H'=H/\∃c,x.cps[i]? =bT /\v= wE c,aSP)
theorem Zz{K:PySem.W.Frag}(it:Addr)(x:Str)(t:Tok)(ty:String)(j:aSQ):
 F3 P w K tg (Zy x) [it] it aGX where
 mem:=by simp
 obj:=λi h st b hb=>by have e:b=it:=cF;subst e;obtain⟨o,e,c,d⟩:=st;exact aGn
 keep:=λi h h' st k=>let(o,n,r):=st;(o,k it aC o n,r)
 item:=by
  intro X q hw B hc i pins s σ H E D hf st hg;subst q hw B;obtain⟨f0,f1,f2,G,f4,I⟩:=eA;have W:Walks X.prog X.w X.A it [it] [it] x.cps.size (SignAt x) aGX:=by
   rcases j with e|e
   .rw[e];exact Walks.strAscii aEz it x t
   rw[e];exact Walks.strWide aEz it x t
  have J:mL5 ty:=by
   rcases j with e|e
   .rw[e];decide
   rw[e];decide
  refine W.item i s _ _ hg st λv h' tk L M N=>?_;obtain⟨c,u,O,rfl⟩:=L;obtain⟨aa,e,U,dd⟩:=id M;exact(0,Kc (s:={s with heap:=h',toks:=tk}) e U dd J (wE c,H,D.DN (mDx N cF) f0 f1 G f4 I,(u,2),(2,c,O,2),M,aBi))
 done:=by
  intro X q hw B hc i pins s σ H E D hf st hg;subst q hw B;obtain⟨f0,f1,f2,G,f4,I⟩:=eA;have hx:=mIQ hg;rcases j with e|e
  .rw[e] at st;exact wpAny_pyNext_ascii_end aEz st hx λh' Y=>(mFf D.DN Y)
  rw[e] at st;exact wpAny_pyNext_wide_end aEz st hx λh' Y=>(mFf D.DN Y)
 self:=λA i s Q E st h=>by
  rcases j with e|e
  .rw[e] at st;exact wpAny_pyIter_striter_ascii st h
  rw[e] at st;exact wpAny_pyIter_striter_wide st h
def Ajw(te:TE):TI:=λσ H R=>te σ H λv H1=>∃x,v= cX /\R (Zy x) H1
theorem Ajx(he:hH):PI X tg e (Ajw te):=by
 intro pins s σ H R j h;refine A5 aCr λv s1 (y,H1,n,z,x,ex,q)=>?_;subst ex;obtain⟨t,rfl⟩:=z
 cases ha:x.cps.all (·<128)
 .exact wpAny_pyIter_wide ha (mBX n (Zz _ x t "str_iterator" dZ) jB)
 exact wpAny_pyIter_ascii ha (mBX n (Zz _ x t "str_ascii_iterator" aZ) jB)
section
variable {prog:Program} {w:World} {A:Around} {E:bK} {s:Shared}
theorem Z0(hd:aLy)(j:nU d=aH)(hc:o.ExactDict)(n:aGY)
 (q:mMT "dict_keyiterator"):
 wpAny bC A (pyIter dC) Q E s:=by
 have z:s.TypeIs dC "dict":=(mO o j hc.1);refine wpAny_pyIter_slot z F.slot_dict_iter (Atf F.slot_dict_iter z F.entry_dict_iter ?_ (F.args_dict_iter_1 _));refine cG;refine vZ Avq z;refine cO;show aSR;unfold Builtin.Dict.showsAll;rw[mAj hd];refine mZ cO;refine pO Aur j n;refine pO AuW j n;refine yN As_ (0,"dict_keyiterator",_,aEA,AuE.lookup,5);simpa[rawInt] using q
theorem Ajy(j:lH)(hit:s.heap.IsKeyIter it d i n ep)(q:nU d=mB od)(z:od.data= aAl)
 (hsz:es.size=n) (hge:n<=i) (B:aSS):wpAny bC A aD9 Q E s:=by
 obtain⟨o,D,hc,hd⟩:=id hit;refine ArZ (AuN (Atu (name:=mAy "__next__") hit.typeIs AuE
  (Atf AuE hit.typeIs F.entry_dict_keyiterator_next ?_ (F.args_dict_keyiterator_next_1 _))))
 refine mZ cO;refine cG;refine cG
 first|refine aST|refine aSU
 refine mIR D;have G:pV Builtin.Dict_items.ownsTuple "dict_keyiterator":=bB;simp only[G,Bool.false_eq_true,if_false];show mDz d s;rw[mM (show¬(oO (rE d==Value.none)) from Ast)];refine mZ cO;refine pO Aur q z;rw[mM (pD hsz)];refine mZ cO;refine pO AuW q z;rw[kF];refine cO;simp only[show¬ aLz from by omega,if_false,Int.toNat_natCast,mIQ (oD hsz hge)];refine cG
 first|refine aST|refine aSU
 show aSV;refine mFR D;refine cG;simp only[newExc,newTuple];refine mZ aCJ;refine aSW;refine aCJ;simp only[raiseNew];refine aLA;rw[show A.in1.handled=none from j];refine aSX;refine vZ mFS aEA;exact Asg (B _ aLB)
end
theorem Ajz{kvs:fI}{vs:aKb}(h:hU):∀{i:Nat}{k:κ}{v:V},kvs[i]? =aGZ ->∃u,vs[i]? =vH k/\AJ v u:=by
 induction h with
 |nil=>intro i k v e;simp at e
 |@cons a b n q r t z=>
  intro i k v e
  cases i with
  |zero=>
   simp at e;subst e;refine(b.2,5,r.2);simp only[List.getElem?_cons_zero];exact AtB some (Prod.ext r.1.symm rfl)
  |succ j=>
   simp at e⊢;exact z e
theorem Z1{G:α->β->Prop}{n:cL}{q:mY β}(h:Paired G n q):∀{i:Nat}{a:α},n[i]? =mB a->∃b,q[i]? =mB b/\G a b:=by
 induction h with
 |nil=>intro i a e;simp at e
 |@cons a b n q r t z=>
  intro i B e
  cases i with
  |zero=>
   simp at e;subst e;exact(mO b rfl r)
  |succ j=>
   simp at e⊢;exact z e
theorem Aj0(h:JU k u=true):AJ aAx u:=by
 rcases H_ h with⟨i,t,rfl,rfl⟩|⟨x,t,rfl,rfl⟩
 .exact aBt
 exact aBt
section
variable {X:Cx} {pins:bA} {σ:St} {H:Hp} {s:Shared} {d:Addr} {o:Obj}
theorem Inv.Rs(j:aE)(h:H d=aG0):
 (d==sysModules)=false/\nU d=aH /\o.ExactDict/\∃(es:aCK)(ep:Nat)(vs:vI C3 Value),o.data= aAl /\es.size=kvs.length/\ hU /\s.heap.DictAt aEg d vs ep:=by
 obtain⟨hd,z,hs,vs,q,o',es,ep,B,hx,I,r⟩:=xJ d h;rw[hd] at B
 cases B
 refine(hs,hd,hx,68,vs,I,5,q,o,es,hd,hx,I,r);have J:=r.2.1.length;have L:=xD q;rw[Aug] at J;omega
end
def Lv(d:Addr)(o:Obj)(kvs:hT):It:=
 (λi H=>H d=aG0 /\i<kvs.length,λi H x H'=>H'=H/\∃k v,kvs[i]? =aGZ /\x=aAx,λi H=>H d=aG0 /\kvs.length<=i)
theorem Rt{o:Obj}(h:aGY)(h':o.data= .dict j n):j=es/\n=ep:=by
 rw[h] at h'
 cases h'
 exact aEa
section
variable {P:Program} {w:World} {K:PySem.W.Frag} {tg:Expr} {d:Addr} {o:Obj} {es:aCK} {ep:Nat}
theorem Z2(it:Addr)(j:aGY):F3 P w K tg (Lv d o kvs) [it] it (λi h=>h.IsKeyIter it d i kvs.length ep) where
 mem:=by simp
 obj:=λi h st b hb=>by have e:b=it:=cF;subst e;obtain⟨n,e,c,dd⟩:=st;exact(mMU n dd)
 keep:=λi h h' st k=>st.at λn e=>k it aC n e
 item:=by intro X q hw B hc i pins s σ H E D hf st hg;subst q hw B;obtain⟨hd,hi⟩:=hg;obtain⟨f0,f1,f2,G,f4,I⟩:=eA;obtain⟨hs,J,hx,aa,ab,vs,L,hsz,M,hm⟩:=D.Rs hd;obtain⟨rfl,rfl⟩:=Rt j L;obtain⟨⟨k,v⟩,N⟩:∃p,kvs[i]? =some p:=(kvs[i],mJ hi);obtain⟨u,hu,ac⟩:=Ajz M N;have O:=xD M;rw[O] at st;refine wpAny_pyNext_dict_item st hm hu λkey h' ae U af=>?_;obtain⟨n,e,c,dd⟩:=id U;refine(key,2,mFQ dd (aAx,H,mIS D.DN (λb Y hb e=>(nJ af.2).trans e),Aj0 (show JU k key=true from ae),(2,k,v,N,2),5,aBi));rw[O];exact U
 done:=by intro X q hw B hc i pins s σ H E D hf st hg;subst q hw B;obtain⟨hd,hi⟩:=hg;obtain⟨f0,f1,f2,G,f4,I⟩:=eA;obtain⟨hs,J,hx,aa,ab,vs,L,hsz,M,hm⟩:=D.Rs hd;obtain⟨rfl,rfl⟩:=Rt j L;exact Ajy aEz st J L hsz hi λh' ag=>(2,D.DN (t':=s.toks) (λb Y hb e=>ag b Y hb e) f0 f1 G f4 I)
 self:=λA i s Q E st h=>wpAny_pyIter_keyiter st h
end
def Aj1(td:TE):TI:=λσ H R=>td σ H λx H1=>∃d o kvs,x= dC /\H1 d=aG0 /\R (Lv d o kvs) H1
section
variable {X:Cx} {tg e:Expr} {td:TE} {apos cpos:Pos}
theorem Aj2(he:nR e td):PI X tg e (Aj1 td):=by intro pins s σ H R j h;refine A5 aCr λu s1 (x,H1,n,z,d,o,kvs,ex,hd,q)=>?_;subst ex;obtain rfl:tU d:=z;obtain⟨hs,B,hx,es,ep,vs,D,hsz,G,hm⟩:=n.Rs hd;refine Z0 hs B hx D (mMV n D);rw[hsz]<;>rfl
end
def MM(K:PySem.W.Frag)(a:Addr):It:=
 (λi H=>∃(xs:aK)(x:V),aQS,λi H v H'=>∃T x,v= mF T/\H T=none/\H'=mDA [aCL,x]/\∀xs,aQT,λi H=>∃xs:aK,aQU)
theorem Aj3{K:PySem.W.Frag}(a e it:Addr):
 F3 P w K aLC (MM K a) [e,it] e (mMW aGm) where
 mem:=by simp
 obj:=λi h st b hb=>by
  obtain⟨⟨BM,he⟩,⟨o,j,hc,hd⟩,_⟩:=st;have e':aG1:=cF;rcases e' with z|z
  .rw[z];exact(mDB he)
  rw[z];exact(mFT o j hd)
 keep:=λi h h' st k=>let((BM,he),hi,n):=st;(aLD,mBY hi.at it,n)
 item:=by
  intro X B hw D hc i pins s σ H E G hf st hg;subst B hw D;obtain⟨⟨BM,he⟩,hit,n⟩:=st;obtain⟨xs,x,hq,hx⟩:=hg;obtain⟨its,I,p,hz⟩:=G.list hq;obtain⟨u,hu,J⟩:=I.get hx;have L:=Asu he;refine wpAny_pyNext_enum_item he hit p.isList (x:=u) aCt n λh' j M N hsz hk=>?_;refine(0,AuO (s:={s with heap:=h',toks:=s.toks+1}) j λO U Y=>?_);have new:C9 X.prog X.w aLE O s.heap.objs.size (.Al [aCL,x]):=
   (20,[mFh i,u],rR bY (wC J),(mIT Y.2 L N))
  have ab:mMX O s.toks:=
   G.OV (ch:=[e,it]) (λb ac hb q=>(Y.2 b aBA).trans (mIU ac)) hf aF new
  refine(eP,_,ab,2,(mMY x G.Av.BC G.M6),((oH u),M.at λo q=>(Y.2 it (Asr n)).trans q,n),fM)
  .have ae:aSY:=aA;rw[ae];exact U
  have af:yP b:=by
   have e':aG1:=cF;rcases e' with z|z
   .rw[z];exact L
   rw[z];exact(by obtain⟨_,q,_⟩:=hit;exact Asu q)
  rw[mDC af];exact(nJ hf).1
 done:=by intro X B hw D hc i pins s σ H E G hf st hg;subst B hw D;obtain⟨⟨BM,he⟩,hit,n⟩:=st;obtain⟨xs,hq,hx⟩:=hg;obtain⟨its,I,p,hz⟩:=G.list hq;obtain⟨f0,f1,f2,ag,f4,ah⟩:=eA;have ai:=I.length;exact wpAny_pyNext_enum_end (G.ok.hd hc) he hit p.isList dM λh' aj=>(2,G.DN (t':=s.toks) (mIV aj) f0 f1 ag f4 ah)
 self:=λA i s Q E st h=>let((_,he),_):=st;Aus he h
def Aj4(K:PySem.W.Frag)(ta:TA):TI:=λσ H R=>ta σ H λvs H1=>∃a xs,vs=cP /\mDy H1 a/\mAs MM
theorem Ru(hg:aLF)(hm:zA tS)(ha:mBF [e])(hs:xH e:=by rfl):
 PI X (mAF j tpos) aLG (Aj4 X.K ta):=by
 intro pins s σ H R n h;refine AuA (mAE n Avf (mDc (mMe H n)));obtain⟨a,xs,ex,hq,q⟩:=G;subst ex
 cases D with
 |cons r I=>
  cases I
  cases r
  obtain⟨its,J,L,hz⟩:=B.list hq;refine call_enumerate_list L.isList λh' he hit hsz hk=>Aus he ?_;refine(187,mDD B.CF,Aj3 a aAy s1.heap.objs.size,aSZ,fM,q);have hle:mDE b:=by
   rcases cF with z|z
   .rw[z];exact aAz
   rw[z];exact aF
  exact mDF B.Hx B.Av.BC
theorem Z3:mBV "zip":=by decide+kernel
def Lw(K:PySem.W.Frag)(a b:Addr):It:=
 (λi H=>∃(xs ys:aK)(x y:V),gQ /\ aLI /\xs[i]? =aY /\ys[i]? =mB y,λi H v H'=>∃T x y,v= mF T/\H T=none/\H'=mDA aAt /\(∀xs,gQ ->xs[i]? =aY)/\∀ys,aLI ->ys[i]? =mB y,λi H=>∃xs ys:aK,gQ /\ aLI /\(mMZ i))
theorem Aj5{K:PySem.W.Frag}{a b z TI TO i1 j:Addr}(D:ZipApart z TI TO i1 j a b):
 F3 P w K aLC (Lw K a b) aLJ z (λi h=>mFU h/\IsPair h TI (mF i1) (mF j)/\ aS0 /\mIW i1 a/\mIW j b) where
 mem:=by simp
 obj:=λi h st c hc=>by
  obtain⟨hz,n,⟨x,y,B⟩,⟨ab,G,_,ac⟩,⟨ae,I,_,af⟩⟩:=st;have e':aS1:=aF4;rcases e' with q|q|q|q|q
  .rw[q];exact(mDB hz)
  .rw[q];exact(mDB n)
  .rw[q];exact(mDB B)
  .rw[q];exact(mFT ab G ac)
  rw[q];exact(mFT ae I af)
 keep:=λi h h' st k=>by obtain⟨hz,n,⟨x,y,B⟩,h1,h2⟩:=st;exact(k z aC _ hz,k TI aC _ n,(x,y,k TO aC _ B),mBY h1.at i1,mBY h2.at j)
 item:=by
  intro X J hw L hc i pins s σ H E M hf st hg;subst J hw L;obtain⟨hz,n,⟨x0,ag,B⟩,h1,h2⟩:=st;obtain⟨xs,ys,x,y,N,O,hx,hy⟩:=hg;obtain⟨its,ah,p,_⟩:=M.list N;obtain⟨ai,aj,p2,_⟩:=M.list O;obtain⟨u,hu,ak⟩:=ah.get hx;obtain⟨al,am,an⟩:=aj.get hy;have ao:=Asu hz;refine wpAny_pyNext_zip_item D hz n B h1 h2 p.isList p2.isList (x:=u) (y:=al) aCt (mR am) λh' ap aq ar as au hsz hk=>?_;refine(0,wpAny_letOwnedTupleGo_zip (s:={s with heap:=h'}) ap λav aw U=>?_);have new:C9 X.prog X.w (mDG aAt) av s.heap.objs.size (.Al aAt):=
   (20,[u,al],rR ak (wC an),(mIT U.2 ao au))
  have ax:mM0 x av:=
   M.OV (t':=s.toks) (ch:=aLJ) (mM1 U.2 aS2) hf aF new
  refine(eP,_,ax,2,(_,x,y,2,M.Av.BC aF,2,λl ay=>by rw[M.M6 ay N];exact hx,λl ay=>by rw[M.M6 ay O];exact hy),(aw,5,(rF u al),5,5),λc az=>?_)
  .exact(U.2 _ D.TIz).trans (mM2 n)
  .exact(U.2 _ D.TOz).trans aq
  .exact ar.at λo q=>(U.2 _ D.i1z).trans q
  .exact as.at λo q=>(U.2 _ D.i2z).trans q
  have a0:yP c:=by
   have e':aS1:=(mR az);rcases e' with q|q|q|q|q
   .rw[q];exact ao
   .rw[q];exact Asu n
   .rw[q];exact Asu B
   .rw[q];obtain⟨_,G,_⟩:=h1;exact Asu G
   rw[q];obtain⟨_,I,_⟩:=h2;exact Asu I
  rw[mDC a0];exact(hf c az).1
 done:=by
  intro X J hw L hc i pins s σ H E M hf st hg;subst J hw L;obtain⟨hz,n,⟨x0,ag,B⟩,h1,h2⟩:=st;obtain⟨xs,ys,N,O,a1⟩:=hg;obtain⟨its,ah,p,_⟩:=M.list N;obtain⟨ai,aj,p2,_⟩:=M.list O;have a2:=ah.length;have a3:=aj.length;have he:mIX its.toArray[i]? ai.toArray[i]?:=by
   rcases a1 with q|q
   .exact mH dM
   exact mI dM
  exact wpAny_pyNext_zip_end (M.ok.hd hc) D hz n B h1 h2 p.isList p2.isList he λh' hk=>(2,M.Zv (t':=s.toks) (ch:=aLJ) (λc o hb q=>
   mIY aS2 q) hf)
 self:=λA i s Q E st h=>Avm st.1 h
def Aj6(K:PySem.W.Frag)(ta:TA):TI:=λσ H R=>ta σ H λvs H1=>∃a b xs ys,vs=aAA /\mDy H1 a/\Ae K H1 b ys/\R (Lw K a b) H1
theorem MN(hg:aLK)(hm:tS "zip")(ha:mBF [e,j])
 (hs:mIZ e j:=by rfl) (n:(xL [j]).any (·.1)=false:=by rfl):
 PI X aLC (mI0 j) (Aj6 X.K ta):=by
 intro pins s σ H R B h;refine AuA (mAE B Z3 (mMQ H n));obtain⟨a,b,xs,ys,ex,J,L,q⟩:=I;subst ex
 cases G with
 |cons r M=>
  cases M with
  |cons N M=>
   cases M
   cases r
   cases N
   obtain⟨its,ab,O,_⟩:=D.list J;obtain⟨ac,ae,p2,_⟩:=D.list L;refine call_zip_2 O.isList p2.isList λh' hz U Y h1 h2 hsz hk=>Avm hz ?_;refine(zB 4,aS3,96,mDD D.CF,Aj5 (mM3 a b O.lt p2.lt),(hz,U,(19,Y),h1,h2),λc af=>?_,q);have hle:mDE c:=by
    rcases(mR af) with z|z|z|z|z
    .rw[z];exact aAz
    .rw[z];exact aAz
    .rw[z];exact aAz
    .rw[z];exact aF
    rw[z];exact aAz
   exact mDF D.Hx D.Av.BC
end L2
section
namespace Bits
open PySem PyProof.Rows
end Bits
end
section
namespace TL
open PySem PySem.Builtin PySem.Builtin.Str PySem.StrLaws
abbrev tl(x:Str):List Nat:=x.cps.toList
theorem Gv(x:Str):x.length=fR.length:=by simp[tl,Str.length]
theorem Rv(h:fR=jF):x=y:=Str.ext' (Array.toList_inj.mp h)
theorem Z4(x y:Str):tl (x++y)=fR++tl y:=by show(x++y).cps.toList=_;rw[Str.cps_append,Array.toList_append]
theorem Z5:∀{l m:bZ},sD tl=m.map tl->l=m
 |[],[],_=>rfl
 |[],_::_,h=>by simp at h
 |_::_,[],h=>by simp at h
 |x::l,y::m,h=>by
  rw[Asn,Asn] at h;injection h with h1 h2
  rw[Rv h1,Z5 h2]
def pre(S l:aB):Bool:=zC S.length==S
def DC(S:aB):Nat-> aB -> aB -> bV
 |_,acc,[]=>[acc]
 |0,acc,c::r=>if aLL=true then acc::DC S aS4 [] r else DC S 0 aLM r
 |k+1,acc,_::r=>mAG k r
theorem UM(S:aB)(k:Nat)(acc:aB):mAG k []=[acc]:=by cases k<;>rfl
theorem Aj7(h:aLL=true):mAG 0 (c::r)=acc::DC S aS4 [] r:=by show aS5=_;rw[fZ]
theorem Aj8(h:aLL=false):mAG 0 (c::r)=DC S 0 aLM r:=by show aS5=_;rw[mAj h]
theorem Z6(S:aB):∀(k:Nat)(acc l:aB),mAG k l=mAG 0 (mET k)
 |0,_,_=>by rw[Atv]
 |k+1,acc,[]=>by rw[List.drop_nil,UM,UM]
 |k+1,acc,c::r=>by
  exact Z6 S k acc r
theorem Aj9(j:S≠[]):pre S []=false:=by
 cases S with
 |nil=>exact uK j
 |cons s S=>rfl
theorem AjA{L:aB}(h:a<L.length):∃c,wH a=c::L.drop (a+1):=(L[a],As8 h)
theorem UN(S L:aB):∀(m a:Nat)(acc:aB),a+m<=L.length->(∀k,a<=k->k<a+m->pre S (wH k)=false)->
 DC S 0 acc (wH a)=DC S 0 (acc++(wH a).take m) (wH (a+m))
 |0,a,acc,_,_=>by rw[AwK,Aum,Nat.add_zero]
 |m+1,a,acc,h,j=>by
  have n:a<L.length:=aA;obtain⟨c,e⟩:=AjA n;have h0:=j a aF aA;have q:=UN S L m (a+1) aLM aA (λk h1 h2=>j k aA aA);have z:a+1+m=a+(m+1):=aA;rw[z] at q;rw[e] at h0;rw[e,Aj8 h0,q,Auf,At3]<;>rfl
theorem AjB(L:aB)(a b:Nat):(wH a).drop b=L.drop (a+b):=by
 first
  |rw[AvJ]
  |rw[AvJ,Nat.add_comm]
theorem AjC{S L:aB}(j:S≠[])(h:pre S (wH c)=true):mAG 0 (wH c)=acc::DC S 0 [] (wH (c+S.length)):=by
 rw[<-AjB]
 cases e:wH c with
 |nil=>rw[e,Aj9 j] at h;cases h
 |cons d r=>
  rw[e] at h;rw[Aj7 h,Z6]
  cases S with
  |nil=>exact uK j
  |cons s S=>rfl
theorem Z7(hy:aEB)(i:Nat):mI1 i↔mI2 i=true:=by
 have hx:=Gv x;have j:=Gv y;constructor
 .intro h;have h2:=h.2;rw[subAt_eq,j] at h2;exact h2
 intro h;have n:=yJ (mEW h);rw[AsS,AtH] at n;have q:=aS6;refine aS7;rw[subAt_eq,j];exact h
theorem Z8(hy:aEB)(h:¬mI1 i):mI2 i=false:=by
 cases hp:mI2 i with
 |false=>rfl
 |true=>exact nL ((Z7 hy i).mpr hp) h
theorem Z9(hy:aEB):1<=y.length:=by rw[Gv y];exact aS6
theorem ZA(x:Str)(i j:Nat):tl (strSub x i j)=(fR.drop i).take (j - i):=strSub_toList x i j
theorem AjD(x:Str)(i:Nat):mI3 i=fR.drop i:=by rw[ZA,Gv x];exact aS8
theorem UO(hy:aEB):∀(cuts:aB)(a f:Nat),a<= fR.length->ChainG x y x.length a cuts f->(∀k,f<=k->¬mI1 k)->
 (partsFrom x y.length a cuts).map tl=DC jF 0 [] (fR.drop a)
 |[],a,f,ha,h,j=>by
  subst h;show[mI3 f]=_;have Ik:=UN jF fR aS9 f [] aA (λk h1 _=>Z8 hy (j k h1));have n:f+aS9=fR.length:=aA;rw[n,AuI,UM,Atz,aS8] at Ik;rw[Ik,AjD]
 |c::r,a,f,ha,h,j=>by
  obtain⟨h1,h2,q,h4⟩:=h;have hc:=h2.1;have hx:=Gv x;show tl (strSub x a c)::(partsFrom x y.length (c+y.length) r).map tl=_;have Ik:=UN jF fR (c - a) a [] aA (λk z B=>Z8 hy (q k z aA));have n:a+(c - a)=c:=aA;rw[n,Atz,AjC hy ((Z7 hy c).mp h2)] at Ik;rw[Ik,UO hy r (c+y.length) f aA h4 j,ZA,(Gv y)]
theorem AjE(x y:Str)(hy:aEB)(hk:¬zD x<zD y):(Txt.split x y).map tl=DC jF 0 [] fR:=by
 obtain⟨f,g,j⟩:=occ_tight x y (Z9 hy);have key:=UO hy _ 0 f aR g j;rw[Atv] at key;have none_case:mI4 x=[]->[x].map tl=DC jF 0 [] fR:=λn=>by rw[n] at key;rw[<-key];show[fR]=[mI3 0];rw[sub_whole]
 unfold Txt.split;by_cases h1:(decide (x.length<y.length)||decide (zD x<zD y))=true
 .rw[mK h1];have q:x.length<y.length:=by
   simp at h1;rcases h1 with h|h
   .exact h
   exact nL h hk
  refine none_case ?_
  cases n:mI4 x with
  |nil=>rfl
  |cons c r=>
   rw[n] at g;have hc:=g.2.1.1;omega
 rw[mM h1];by_cases h2:(mI4 x).isEmpty=true
 .rw[mK h2];exact none_case (List.isEmpty_iff.mp h2)
 rw[mM h2,partsBetween_eq];exact key
theorem AjF(h:aTa=true):¬zD x<Builtin.Str.strKind y:=by
 have e:zD y=1:=(by unfold PySem.Builtin.Str.strKind;rw[fZ]);rw[e];unfold PySem.Builtin.Str.strKind;split
 .omega
 split<;>omega
def OX(S:aB):bV -> aB
 |[]=>[]
 |[p]=>p
 |p::q::r=>p++(S++OX S (q::r))
theorem ZB(y:Str):∀parts:bZ,tl (Str.join y parts)=OX jF (parts.map tl)
 |[]=>rfl
 |[_]=>rfl
 |x::z::r=>by
  show tl (x++y++Str.join y (z::r))=fR++(jF++OX jF ((z::r).map tl));rw[Z4,Z4,ZB y (z::r),At3]
theorem AjG(y:Str)(parts:bZ):Txt.join y parts=Str.join y parts:=glued_eq_join y parts
end TL
end
namespace L2
open PySem PySem.Spec PyProof.Rows
theorem ZC:∀l:yX Tok,AB (aA9.map V.str) aLN
 |[]=> .nil
 |p::r=> rR (p.2,2) (ZC r)
theorem UP:∀{ys:bZ}{us:aT},qO aG2 ->StrsAre us ys
 |[],_,.nil=> .nil
 |y::ys,_,.cons r t=>by
  obtain⟨k,rfl⟩:=r;exact .cons y k (UP t)
def UQ(ys:bZ):Hp->VK->Prop:=λH Q=>∀p,H p=none->mAx H aG2
section
variable {X:Cx} {pins:bA} {σ:St} {H:Hp} {s:Shared} {Q:VK}
theorem UR(j:aE)(e:aA9=ys)(hz:aGF)(h:UQ ys H Q):
 EP X pins σ Q eP {s with toks:=k,heap:=s.heap.push {cls:= fJ,data:= .seq aLN.toArray}}:=by
 refine(eP,mFo nE H aG2,j.DV aKZ aF (161,aLN,_,5,eQ),2,h _ aBq);rw[<-e];exact ZC l
end
section
variable {X:Cx}
theorem AjH:EM X "str.split" aTb:=by
 intro pins s σ H x xs v us Q j n rs h;obtain⟨a,b,rfl,rfl,hb,hz,h⟩:=h;obtain⟨t,rfl⟩:=n
 cases rs with
 |cons q rs=>
  cases rs
  obtain⟨u,rfl⟩:=q;have z:=AsV (PyProof.Rows.split_le a b) hz;have B:pX (Builtin.Str.partsBetween a (mM4 a b) b.length).length:=by have D:=StrLaws.occ_length_le a b 0 a.length (a.length+1);rw[length_partsBetween];omega
  cases h1:(decide (a.length<b.length)||decide (zD a<zD b))
  .cases hf:(mM4 a b).isEmpty
   .refine mI5 (meets_str_split_sep a b t u h1 hb hf aA B);rw[strsFrom_eq];exact UR (ys:=Txt.split a b) j (mM5 (numbered_texts _ _).trans (mM (AvG hf))) z h
   refine mI5 (meets_str_split_not_found a b t u h1 hb hf);exact mM5 mM6 (mK hf)
  refine mI5 (meets_str_split_cannot_occur a b t u h1);exact mM6 (mK h1).symm
theorem AjI:EM X "str.join" (λx xs H Q=>∃a p,∃ys:bZ,x= nK a/\xs=[aS]/\ aTc /\
 aTd.sum+ys.length*a.length<=16777216/\mM7 a):=by
 intro pins s σ H x xs v us Q j q rs h;obtain⟨a,p,ys,rfl,rfl,hp,hz,h⟩:=h;obtain⟨t,rfl⟩:=q
 cases rs with
 |cons z rs=>
  cases rs
  cases z
  rcases hp with hp|hp
  .obtain⟨its,r,⟨o,n,B,hc,_,hd⟩,_⟩:=yS hp;exact PyProof.Rows.join_list (items:=its.toArray) (o,B,hc,n,hd) aTe hz λt' k=>(mM8 H)
  obtain⟨its,r,D,_⟩:=j.tuple hp;exact PyProof.Rows.join_tuple (items:=its.toArray) D aTe hz λt' k=>(mM8 H)
theorem mt0{id:String}{C:Str->Prop}{g:Str->V}(rule:∀(a:Str)(t:Tok)(s:Shared)(Q:bK),C a->(∀(u:Value)(k:Nat),sV (g a)->Q u {s with toks:=k})->
 wpAny bM X.A (uQ id [.str a t]) Q X.xe s):EM X id (λx xs H Q=>∃a,x= nK a/\xs=[]/\C a/\uO g a):=by
 intro pins s σ H x xs v us Q j n rs h;obtain⟨a,rfl,rfl,hc,h⟩:=h;obtain⟨t,rfl⟩:=n
 cases rs
 exact rule a t s _ hc λu k r=>(g a,H,j.BW k,r,h)
theorem ZD{id:String}{g:Str->Str->V}(rule:∀(a b:Str)(t u:Tok)(s:Shared)(Q:bK),(∀(v:Value)(k:Nat),AJ (g a b) v->Q v {s with toks:=k})->
 wpAny bM X.A (uQ id [.str a t,.str b u]) Q X.xe s):EM X id (λx xs H Q=>∃a b,x= nK a/\xs=[nK b]/\Q (g a b) H):=by
 intro pins s σ H x xs v us Q j n rs h;obtain⟨a,b,rfl,rfl,h⟩:=h;obtain⟨t,rfl⟩:=n
 cases rs with
 |cons q rs=>
  cases rs
  obtain⟨u,rfl⟩:=q;exact rule a b t u s _ λv k r=>(g a b,H,j.BW k,r,h)
theorem AjK:EM X "str.endswith" (mM9 rG Txt.endswith):=
 ZD (g:=λa b=> .bl (Txt.endswith a b)) λ_ _ _ _ s _ h=>PySem.SC.endswith aTf
theorem ZE:EM X "str.count" (mM9 sY Txt.count):=
 ZD (g:=λa b=> mE (Txt.count a b)) λ_ _ _ _ s _ h=>PySem.SC.count (h _ (s.toks+1) bY)
end
section
variable {X:Cx} {o e:Expr} {to te:TE}
def tM0(r:hK)(to:TE):TE:=λσ H Q=>to σ H λx H1=>aTg /\r x [] H1 Q
def US(r:hK)(to te:TE):TE:=λσ H Q=>to σ H λx H1=>aTg /\te σ H1 λy H2=>r x [y] H2 Q
theorem AjM{id:String}(slot:mBP "str")(ty:aCB)(rule:aCC)(j:kB)
 (n:uP o name:=by rfl) (q:wF pos.line:=by rfl):PE X (mBQ [] pos) (tM0 r to):=by
 intro pins s σ H Q z h;refine PySem.Call_method0 n q (mIw j);obtain⟨⟨a,rfl⟩,G⟩:=G;obtain⟨t,rfl⟩:=_root_.id D;exact(71,mBR (AuQ (rule pins s1 σ H1 _ [] _ [] Q B D .nil G)))
theorem OY{id:String}(slot:mBP "str")(ty:aCB)(rule:aCC)(j:kB)(he:hH)
 (hs:xH e:=by rfl) (n:uP o name:=by rfl) (q:wF pos.line:=by rfl):
 PE X (mBQ [e] pos) (US r to te):=by
 intro pins s σ H Q z h;refine PySem.Call_method1 n hs q (mIw j);obtain⟨⟨a,rfl⟩,G⟩:=G;obtain⟨t,rfl⟩:=_root_.id D;refine(71,mBR (Auv (At7 ?_)));exact A5 (rT he B G) λu s2 (y,H2,I,J,L)=>Aua (rule pins s2 σ H2 _ [y] _ [u] Q I D (wC J) L)
theorem MO(j:kB)(he:hH)(hs:xH e:=by rfl)(n:uP o "split":=by rfl)(q:wF pos.line:=by rfl):
 PE X (mNa "split") (US aTb to te):=
 OY Avn F.type_str_split AjH j he hs n q
theorem AjN(j:kB)(he:hH)(hs:xH e:=by rfl)(n:uP o "join":=by rfl)(q:wF pos.line:=by rfl):
 PE X (mNa "join") (US (λx xs H Q=>∃a p,∃ys:bZ,x= nK a/\xs=[aS]/\ aTc /\
  aTd.sum+ys.length*a.length<=16777216/\mM7 a) to te):=
 OY F.slot_str_join F.type_str_join AjI j he hs n q
end
end L2
namespace L2
open PySem PySem.Spec PyProof.Rows
section
variable {X:Cx}
theorem AjO:Bt X aGH (λx y H Q=>∃(c:Nat)(z:Str),x= wE c/\y= nK z/\rG (decide (c∈z.cps.toList))):=by intro pins s σ H x y v u Q j n B h;obtain⟨c,z,rfl,rfl,q⟩:=h;obtain⟨t,rfl⟩:=n;obtain⟨t',rfl⟩:=B;exact PyProof.Rows.in_str (Cv j q (PySem.StrLaws.found_one z c).symm)
end
theorem IsPart.Bm(p:xM v o):∃l:oG (Int×Tok),v=partValue l/\ aA9=o:=by
 cases p with
 |none=>exact aG3
 |int i t=>exact(mB (i,t,),29)
def Rx(n d:Nat):dP ->Int
 |none=>(d:Int)
 |some i=>max 0 (mNb i Int)
theorem ZF(n d:Nat)(o:dP):Rx n d o=((HT.AK n d o:Nat):Int):=by
 cases o with
 |none=>rfl
 |some v=>
  show max (0:Int) (mNb v Int)=((aK6:Nat):Int);by_cases j:v<0
  .simp only[if_pos j];omega
  simp only[mAv j];omega
theorem AjP(a b:dP)(n:Nat):mI6 a b n=sliceRange (Rx n 0 a) (Rx n n b) 1:=by
 cases a<;>cases b<;>first
  |rfl
  |(simp;rfl)
  |simp[Builtin.Str.strSliceIndices,Rx]
theorem AjQ(a b:dP)(n:Nat):mI6 a b n=(oP (HT.AK n n b - HT.AK n 0 a)).map (λk=>HT.AK n 0 a+k):=by
 rw[AjP,ZF,ZF];generalize HT.AK n 0 a=p;generalize HT.AK n n b=q;simp only[sliceRange,show((1:Int)>0)=True from by simp,if_true];by_cases j:(p:Int)<q
 .have e3:(((q:Int) - p+1 - 1)/1).toNat=q - p:=by first|omega|(simp;done)|(simp;omega)
  simp only[j,if_true,e3];refine AsU λk _=>?_;omega
 have:q - p=0:=aA;simp[j,this]
def MP(z:Str)(lo hi:dP):Str:=
 ⟨ aTi.toArray⟩
theorem ZG(z:Str)(lo hi:dP):mI7 lo hi=MP z lo hi:=by
 have hp:aCM <=max aCM aG4:=Nat.le_max_left _ _;have hq:max aCM aG4 <=z.length:=Nat.max_le.mpr (HT.Uu _ _ aR _,HT.Uu _ _ aF _);have hd:max aCM aG4 - aCM=HT.AK z.length z.length hi - HT.AK z.length 0 lo:=aA;have e:mI6 lo hi z.length=
  Builtin.Str.strSliceIndices aTj aTk 1 z.length:=by
  rw[PySem.StrLaws.strSliceIndices_plain hp hq,hd,AjQ]
 have j:mI7 lo hi=
  PySem.StrLaws.sliceText z aTj aTk:=by
  unfold PySem.StrLaws.sliceText;rw[e]
 rw[j,PySem.StrLaws.sliceText_nat z hp hq,hd];rfl
theorem AjR(z:Str)(lo hi:dP):(MP z lo hi).length<=z.length:=by show(aTi.toArray).size<=z.cps.size;rw[As2,AsS,AtH,Aug];omega
def AjS:mDp Int:=λx lo hi H Q=>∃z,x= nK z/\z.length<=sizeLine/\uO nK (MP z lo hi)
theorem ZH:MB X AjS:=by
 intro pins s σ H x v j n lo hi sl Q B D hs pl pu h;obtain⟨z,rfl,hz,q⟩:=h;obtain⟨t,rfl⟩:=D;obtain⟨os,G,I,J⟩:=hs;obtain⟨l,rfl,rfl⟩:=IsPart.Bm pl;obtain⟨u,rfl,rfl⟩:=IsPart.Bm pu;refine("str",_,F.slot_str_getitem.lookup,uR AuH,5);refine wpAny_getItem_str_slice (l:=l) (u:=u) (st:=none) (os,G,I,J) rfl ?_;have L:(mI7 aA9 (yO u.map)).length<=sizeLine:=by rw[ZG];exact AsV (AjR z _ _) hz
 rw[<-ZG] at q;unfold PySem.StrLaws.sliceText at q L;show Made.post (if aTl=true then Made.val (.str z t)
  else Made.str ⟨(aTm.filterMap (z.cps[·]?)).toArray⟩) gE s
 by_cases c:aTl=true
 .rw[mK c] at q⊢;exact(nK z,H,B,aBt,q)
 rw[mM c] at q L⊢;exact(L,.str _,H,B.BW _,bY,q)
end L2
namespace ZI
open PySem PySem.W PySem.Calls PyProof.Rows
theorem AjT:∀(ns:bG)(vs:aT),WellAll P h vs (ns.map WData.int)->IntsAre vs ns:=by
 intro ns
 induction ns with
 |nil=>
  intro vs w;rw[AuX] at w
  cases w
  exact .nil
 |cons n ns j=>
  intro vs w;rw[Asn] at w
  cases w with
  |cons a b=>
   cases a
   exact .cons _ _ (j _ b)
section
variable {prog:Program} {w:World} {A:Around} {E:bK} {s:Shared} {K:Frag}
end
end ZI
namespace L2
open PySem PySem.Spec PyProof.Rows
theorem ZJ:∀{vs:aT}{ns:bG},mBS vs->AB iB vs
 |_,_,.nil=> .nil
 |_,_,.cons n t h=> rR aBt (ZJ h)
def UT(H:Hp):Prop:=∀b,H b=none\/∃o xs,H b=sW o (.Ac xs)
end L2
namespace L2
open PySem PySem.Spec PyProof.Rows
abbrev UU{K:PySem.W.Frag}{h:Heap}(_:K.In h):PySem.W.Frag:=K
end L2
namespace L2
open PySem PySem.Spec PyProof.Rows
def Bp(s:Stmt)(j:Nat):Stmt:=match s with
 | .ClassDef _ _ _ body _ _ _ _ _ _ _=>body.getD j aLO
 |_=> aLO
def Jq(s:Stmt):Arguments:=match s with
 | .FunctionDef _ a _ _ _ _ _ _ _ _=>a
 |_=>{posonlyargs:=[],args:=[],vararg:=none,kwonlyargs:=[],kw_defaults:=[],kwarg:=none,defaults:=[]}
def Im(s:Stmt):List Stmt:=match s with
 | .FunctionDef _ _ b _ _ _ _ _ _ _=>b
 |_=>[]
def A0(s:Stmt):Scope:=match s with
 | .FunctionDef _ _ _ _ _ _ sc _ _ _=>sc
 |_=>{kind:= .function,names:=[],isGenerator:=false,isCoroutine:=false}
abbrev A9:Kf:=λ_ _ _ _ _ _=>False
abbrev E0:XK:=λ_ _ _=>False
theorem Ay:Kg A9 X E0:=λ_ _ _ _ _ _ _ h=>h.elim
structure Lx(K:PySem.W.Frag)(x qual:Str)(st:Stmt)(f:Addr)(fd:FuncData):Prop where
 ex:∃(oc:Value)(od:hV)(kV doc pm:Value)(an:hV)(cdv ct:Value)(osl:aG5),
  fd=mFV cdv/\rS f=mB (oc,od,.func fd,osl)/\mFu cdv=true
 kp:mDl K f=true
section
variable {P:Program} {w:World} {K:PySem.W.Frag} {mg:aN} {base:Heap}
theorem Lx.ok{st:Stmt}(F:aTn)(S:AD N ps aG6)(len:aRH)
 (j:∀(z:Value)(A:Around)(outer:jZ)(s:Shared)(H:Hp)(vs:aK)(Q:VK)(E:XK),Dj k (A.deeper (envOfC qual aG6 s.heap.objs.size f z))->mBJ H->
  ∃t,Go (MA A9 P w K mg base N qual aG6 f z A outer s H E).QD (Im st) t/\t {nx:=λ_ H'=>cU,rt:=Q} aEo H):A4 P w K mg base A9 (k+1) f fd ps sp:=by
 obtain⟨B,od,kV,doc,pm,an,z,ct,I,rfl,J,L⟩:=F.ex;refine Aiw J L S len λA outer s H vs Q E M O=>?_;obtain⟨t,h,q⟩:=j z A outer s H vs Q E M O;exact(mO t h.QD q)
theorem Lx.Kh{st:Stmt}(F:aTn)
 (h:∀(kV doc pm:Value)(an:hV)(j ct:Value)(us:aT),us.length=ps.length->mIq (mFV j)=pure aEj):GX K fd ps []:=by
 obtain⟨q,od,kV,doc,pm,an,j,ct,z,rfl,B,I⟩:=F.ex;exact .all (h kV doc pm an j ct)
theorem Ry{st:Stmt}{kV doc pm j ct:Value}(l:rS f=mFt n (mFV j) q)
 (c:mFu j=true) (k:mDn K):Lx K x qual st f (mFV j):=((n,od,kV,doc,pm,an,j,ct,q,2,l,c),k)
end
theorem F5(j:Dj k A):lG:=j.units
section
variable {X:Cx}
theorem pv(i:Nat)(j:pC X.N[i]? x:=by rfl)(n:TX X.env.scope x:=by first|exact aLP|exact Or.inr aLP|exact oA Or.inr rfl)(hd:uM x:=by decide)
 (q:pG aQB:=by decide):PE X aCq (Bo i):=Ah1 j n hd q
end
theorem Az{A B:Prop}(h:B):if false=true then A else B:=by rw[mM Ast];exact h
theorem Au{A B:Prop}(h:A):if true=true then A else B:=by rw[bE];exact h
theorem ZK{c A B:Prop}[Decidable c](h1:c->A)(h2:¬c->B):if c then A else B:=by
 by_cases h:c
 .rw[fZ];exact h1 h
 rw[gM];exact h2 h
def Ab(H H':Hp):Prop:=∀b o,H b=aH -> eN=aH
theorem Ab.refl(H:Hp):Ab H H:=λ_ _ h=>h
theorem Ab.trans(a:fS)(b:tD H2):Ab H H2:=λc o h=>b c o (a c o h)
theorem Ab.free(e:aO)(h:mFW H' l):mFW H l:=by
 cases q:H l with
 |none=>rfl
 |some o=>
  rw[e l o q] at h
  cases h
theorem Ab.seq{K:PySem.W.Frag}(e:aO)(h:gQ):Ae K H' a xs:=by
 rcases h with(h|⟨o,h⟩)|h
 .exact oA mH (mC e h)
 .exact mCT (o,mC e h)
 exact mI h
section
variable {κ:Type} [mDw κ]
theorem ZL{kvs:fI}{k:κ}(h:jD=none):¬k∈kvs.map (·.1):=by intro m;obtain⟨p,hp,e⟩:=pA m;have q:oO aGS:=List.any_eq_true.mpr (p,hp,mU e);rw[MH,h] at q;exact nL q aC
end
end L2
namespace Vp
open PySem L2
def AG(i:Nat):Stmt:=PySem.Challenge.pw_versefeet_s01_answers.main.body.getD i aLO
abbrev UV:Stmt:=AG 5
abbrev ZM:Stmt:=AG 20
abbrev ZN:Stmt:=AG 21
abbrev ZO:Stmt:=AG 22
abbrev ZP:Stmt:=AG 23
abbrev ZQ:Stmt:=AG 24
abbrev ZR:Stmt:=AG 25
abbrev ZS:Stmt:=AG 26
abbrev ZT:Stmt:=AG 27
abbrev UW:Stmt:=nM 28 0
abbrev ZU:Stmt:=nM 29 0
abbrev ZV:Stmt:=AG 34
abbrev OZ:Stmt:=AG 35
abbrev Rz:Stmt:=AG 36
abbrev ZW:Stmt:=AG 37
abbrev ZX:Stmt:=nM 46 0
abbrev ZY:Stmt:=AG 47
abbrev UX:Stmt:=AG 48
abbrev UY:Stmt:=AG 49
abbrev ZZ:Stmt:=AG 50
abbrev UZ:Stmt:=AG 51
abbrev R3:Stmt:=AG 52
abbrev Z_:Stmt:=AG 54
abbrev Aaa:Stmt:=AG 55
abbrev Aab:Stmt:=AG 56
abbrev U_:Stmt:=AG 57
abbrev Aac:Stmt:=nM 62 0
abbrev Aad:Stmt:=nM 63 0
abbrev Aae:Stmt:=nM 63 1
abbrev Aaf:Stmt:=nM 64 0
abbrev Aag:Stmt:=nM 64 1
abbrev Aah:Stmt:=nM 64 2
abbrev Aai:Stmt:=nM 64 3
abbrev Aaj:Stmt:=nM 64 4
abbrev Aak:Stmt:=AG 65
abbrev Aal:Stmt:=AG 66
abbrev Aam:Stmt:=AG 67
abbrev Aan:Stmt:=AG 68
abbrev Aao:Stmt:=tW 0
abbrev Aap:Stmt:=tW 1
abbrev Aaq:Stmt:=tW 2
abbrev Aar:Stmt:=tW 3
abbrev Va:Stmt:=tW 4
abbrev Vb:Stmt:=tW 5
abbrev Aas:Stmt:=tW 6
abbrev Aat:Stmt:=tW 7
abbrev Aau:Stmt:=tW 8
abbrev Aav:Stmt:=tW 9
abbrev Aaw:Stmt:=tW 10
abbrev Aax:Stmt:=tW 11
abbrev R4:Stmt:=tW 12
abbrev Aay:Stmt:=nM 71 0
abbrev Aaz:Stmt:=nM 71 1
abbrev Aa0:Stmt:=nM 71 2
abbrev Aa1:Stmt:=nM 71 3
abbrev Aa2:Stmt:=nM 71 4
abbrev Vc:Stmt:=nM 73 0
abbrev Aa3:Stmt:=nM 73 1
abbrev Vd:Stmt:=AG 74
abbrev Ly:Stmt:=nM 75 0
abbrev Aa4:Stmt:=nM 75 1
abbrev Aa5:Stmt:=nM 75 2
abbrev Aa6:Stmt:=nM 75 3
abbrev Aa7:Stmt:=nM 75 4
abbrev Aa8:Stmt:=nM 77 0
abbrev Ve:Stmt:=AG 78
abbrev R5:Stmt:=AG 79
abbrev Vg:Stmt:=AG 80
abbrev O_:Stmt:=nM 81 0
abbrev Aa9:Stmt:=nM 81 1
abbrev AaA:Stmt:=nM 83 0
abbrev AaB:Stmt:=nM 84 0
abbrev AaC:Stmt:=nM 84 1
abbrev AaD:Stmt:=nM 84 2
abbrev AaE:Stmt:=nM 84 3
abbrev AaF:Stmt:=nM 84 4
abbrev AaG:Stmt:=nM 84 5
abbrev AaH:Stmt:=nM 84 6
abbrev AaI:Stmt:=nM 86 0
abbrev AaJ:Stmt:=nM 86 1
abbrev AaK:Stmt:=nM 86 2
abbrev AaL:Stmt:=nM 86 3
abbrev Vh:Stmt:=nM 86 4
abbrev AaM:Stmt:=nM 86 5
abbrev AaN:Stmt:=nM 86 6
abbrev AaO:Stmt:=nM 100 0
abbrev AaP:Stmt:=nM 100 1
abbrev AaQ:Stmt:=nM 100 2
abbrev AaR:Stmt:=nM 100 3
abbrev Vi:Stmt:=nM 100 4
abbrev AaS:Stmt:=AG 101
abbrev AaT:Stmt:=AG 102
abbrev AaU:Stmt:=AG 103
abbrev AaV:Stmt:=AG 104
abbrev AaW:Stmt:=AG 105
abbrev R6:Stmt:=AG 106
abbrev Vj:Stmt:=AG 107
abbrev AaX:Stmt:=AG 108
abbrev AaY:Stmt:=AG 109
abbrev Vk:Stmt:=AG 110
structure Aw where
 (Gx Lz L5 L7 Fi L9 LA Io Fj LB LC Gy LD Fk Ip MQ LF LG Iq LH LI Gz Fl Ir G0 LJ G1 MR MS MT MU MV MW MX Iu G3 Iv Iw MY Km Ko MZ Kp M_ FQ Na Kq Nb Nc Nd Nf Ng Ks Nh Ni Ku Nj Nk LK Nl Ix Kv Iy Iz Nm LL LM LN Nn No LO Np Nq Nr Nt Kw Nu Nv LP Nw Kx I0 Ny Nz N0 N2 N3 IA Kz N4 padded speak IB scan way LQ LR Jr answer answers FR IC ID FS CH BD AV DD CI A_ CM Cp Dd CB Dq Cy LS Pa Pb Pc FT:Addr)
 (AaZ Aa_ Aba Abb Abc Abd Abe Abf Abg Abh Abi Abj Abk Abl Abm Abn Abo Abp Abq Abr Abs Abt Abu Abv Abw Abx Aby Abz Ab0 Ab1 Ab2 Ab3 Ab4 Ab5 Ab6 Ab7 Ab8 Ab9 AbA AbB AbC AbD AbE AbF N5 AbG Vl AbH AbI AbJ AbK AbL AbM AbN AbO AbP AbQ AbR AbS AbT AbU AbV AbW AbX AbY AbZ Ab_ Aca Acb Acc Acd Ace Acf Acg Ach Aci Acj Ack Acl Acm Acn Aco Acp Acq Acr Acs Act Acu Acv Acw Acx Acy Acz Ac0 Ac1 Ac2 Ac3 R7 Ac4 R8:FuncData)
variable (K:PySem.W.Frag) (mg:aN)
structure BN(x:Str)(st:Stmt)(ps:bZ)(f:Addr)(d:FuncData):Prop where
 F:Lx K x x st f d
 b:GX K d ps []
 m:mg x=kE
structure Bn(C:Addr)(x q:Str)(st:Stmt)(ps:bZ)(f:Addr)(d:FuncData):Prop where
 F:Lx K x q st f d
 b:GX K d ps []
 h:QR K C x f
structure Fa(x:Str)(C i:Addr):Prop where
 c:GV K C
 m:mg x=some (mF C)
 k:Mk K C i
abbrev N6(A:Addr)(l:aK):Prop:=∃(o:Obj)(a:jX)(n:Nat),rS A=aH /\o.cls= hB /\o.data= mAh a/\a.size<=sizeLine/\AB l a.toList
abbrev BY(x:Str)(v:V):Prop:=∃u,mg x=aM /\ fH
structure Txt(t:Aw):Prop where
 Gx:BN K mg "text_of" UV aLQ t.Gx t.AaZ
 Lz:BN K mg "is_silent" ZM aBB t.Lz t.Aa_
 L5:BN K mg "sound_at" ZN aBB t.L5 t.Aba
 L7:BN K mg "sounds_of" ZO ["word"] t.L7 t.Abb
 Fi:BN K mg "is_vowel" ZP aG7 t.Fi t.Abc
 L9:BN K mg "is_long" ZQ aG8 t.L9 t.Abd
 LA:BN K mg "without_passed_over" ZR aG9 t.LA t.Abe
 Io:BN K mg "weight_of" ZS aHa t.Io t.Abf
 Fj:BN K mg "joined_weight" ZT aHb t.Fj t.Abg
 Gy:BN K mg "read_line" ZV aBC t.Gy t.Abj
 LD:BN K mg "shapes_of" OZ lK t.LD t.Abk
 Fk:BN K mg "syllables_of" Rz lK t.Fk t.Abl
 Ip:BN K mg "is_speakable" ZW aHc t.Ip t.Abm
 LF:BN K mg "is_way" ZY lK t.LF t.Abo
 LG:BN K mg "is_foot" UX ["ways"] t.LG t.Abp
 Iq:BN K mg "written_numbers" UY ["most"] t.Iq t.Abq
 LH:BN K mg "read_cut" ZZ aLR t.LH t.Abr
 LI:BN K mg "read_cuts" UZ aLS t.LI t.Abs
 Gz:BN K mg "read_measure" R3 aBC t.Gz t.Abt
 Fl:BN K mg "lowest" Z_ gR t.Fl t.Abu
 Ir:BN K mg "highest" Aaa gR t.Ir t.Abv
 G0:BN K mg "single_bits" Aab gR t.G0 t.Abw
 LJ:BN K mg "choices_of" U_ gR t.LJ t.Abx
 Iu:BN K mg "plain_lack" Aak [] t.Iu t.Ab6
 G3:BN K mg "joined_lack" Aal aHd t.G3 t.Ab7
 Iv:BN K mg "lack_ahead" Aam aHe t.Iv t.Ab8
 Iw:BN K mg "finish_ahead" Aan aHf t.Iw t.Ab9
 LK:BN K mg "stretches_of" Vd aLT t.LK t.AbS
 LL:BN K mg "costs_of" Ve aLU t.LL t.AbZ
 LM:BN K mg "words_at_most" R5 aLV t.LM t.Ab_
 LN:BN K mg "sort_key" Vg aLW t.LN t.Aca
 padded:BN K mg "padded" AaS aHg t.padded t.Acx
 speak:BN K mg "speak" AaT ["line"] t.speak t.Acy
 IB:BN K mg "scan_refusal" AaU aHh t.IB t.Acz
 scan:BN K mg "scan" AaV aLX t.scan t.Ac0
 way:BN K mg "way" AaW aLY t.way t.Ac1
 LQ:BN K mg "read_stock" R6 ["stock"] t.LQ t.Ac2
 LR:BN K mg "is_row" Vj aLZ t.LR t.Ac3
 Jr:BN K mg "next_row" AaX aHi t.Jr t.R7
 answer:BN K mg "answer" AaY aHj t.answer t.Ac4
 answers:BN K mg "answers" Vk aEC t.answers t.R8
 DQ:Fa K mg "Shape" t.FR t.LB
 LB:Bn K t.FR "__init__" "Shape.__init__" UW aL0 t.LB t.Abh
 N7:AS K t.FR "lead"
 GZ:AS K t.FR "weights"
 Fm:Fa K mg "Word" t.IC t.LC
 LC:Bn K t.IC "__init__" "Word.__init__" ZU aL1 t.LC t.Abi
 N8:AS K t.IC "vowel_first"
 N9:AS K t.IC "shapes"
 IE:Fa K mg "Measure" t.ID t.MQ
 MQ:Bn K t.ID "__init__" "Measure.__init__" ZX aHk t.MQ t.Abn
 RB:AS K t.ID "feet"
 RC:AS K t.ID "cuts"
 BF:Fa K mg "Note" t.FS t.G1
 G1:Bn K t.FS "__init__" "Note.__init__" Aac aHl t.G1 t.Aby
 NA:AS K t.FS "is_finish"
 Js:AS K t.FS "words"
 LU:AS K t.FS "rest"
 LW:AS K t.FS "room"
 E9:Fa K mg "Group" t.CH t.MR
 MR:Bn K t.CH "__init__" "Group.__init__" Aad aHm t.MR t.Abz
 MS:Bn K t.CH "add_sort" "Group.add_sort" Aae aHn t.MS t.Ab0
 LX:AS K t.CH "cost"
 Vm:AS K t.CH "followers"
 Vn:AS K t.CH "sorts"
 Vo:AS K t.CH "words"
 CN:Fa K mg "Knot" t.BD t.MT
 MT:Bn K t.BD "__init__" "Knot.__init__" Aaf aHo t.MT t.Ab1
 MU:Bn K t.BD "known_finish" "Knot.known_finish" Aag aCN t.MU t.Ab2
 MV:Bn K t.BD "known_lack" "Knot.known_lack" Aah aCN t.MV t.Ab3
 MW:Bn K t.BD "keep_note" "Knot.keep_note" Aai aHp t.MW t.Ab4
 MX:Bn K t.BD "forget_notes" "Knot.forget_notes" Aaj cK t.MX t.Ab5
 Ac5:AS K t.BD "mode"
 Ac6:AS K t.BD "state"
 RD:AS K t.BD "fewest"
 Pd:AS K t.BD "groups"
 RE:AS K t.BD "finishes"
 NB:AS K t.BD "lacks"
 B_:Fa K mg "Finisher" t.AV t.MY
 MY:Bn K t.AV "__init__" "Finisher.__init__" Aao aHq t.MY t.AbA
 Km:Bn K t.AV "can_finish" "Finisher.can_finish" Aap aL2 t.Km t.AbB
 Ko:Bn K t.AV "hopeful" "Finisher.hopeful" Aaq aCO t.Ko t.AbC
 MZ:Bn K t.AV "first_twins" "Finisher.first_twins" Aar aBD t.MZ t.AbD
 Kp:Bn K t.AV "knots_in" "Finisher.knots_in" Va aCO t.Kp t.AbE
 M_:Bn K t.AV "knot_at" "Finisher.knot_at" Vb aL3 t.M_ t.AbF
 FQ:Bn K t.AV "note_at" "Finisher.note_at" Aas aBE t.FQ t.N5
 Na:Bn K t.AV "keep" "Finisher.keep" Aat aL4 t.Na t.AbG
 Kq:Bn K t.AV "search" "Finisher.search" Aau aBE t.Kq t.Vl
 Nb:Bn K t.AV "search_group" "Finisher.search_group" Aav aCP t.Nb t.AbH
 Nc:Bn K t.AV "search_sorts" "Finisher.search_sorts" Aaw aCP t.Nc t.AbI
 Nd:Bn K t.AV "groups_at" "Finisher.groups_at" Aax aBF t.Nd t.AbJ
 Nf:Bn K t.AV "make_groups" "Finisher.make_groups" R4 aBF t.Nf t.AbK
 Vq:AS K t.AV "places"
 Ac7:AS K t.AV "sorts"
 Vr:AS K t.AV "views"
 NC:AS K t.AV "knots"
 RF:AS K t.AV "kept"
 Em:Fa K mg "Outlook" t.DD t.Ng
 Ng:Bn K t.DD "__init__" "Outlook.__init__" Aay aHr t.Ng t.AbL
 Ks:Bn K t.DD "view_of_end" "Outlook.view_of_end" Aaz cK t.Ks t.AbM
 Nh:Bn K t.DD "view_ahead" "Outlook.view_ahead" Aa0 aL5 t.Nh t.AbN
 Ni:Bn K t.DD "add_shape" "Outlook.add_shape" Aa1 aL6 t.Ni t.AbO
 Ku:Bn K t.DD "add_led" "Outlook.add_led" Aa2 aL7 t.Ku t.AbP
 Pe:AS K t.DD "places"
 Ac8:AS K t.DD "sorts"
 Pf:AS K t.DD "views"
 De:Fa K mg "Stretch" t.CI t.Nj
 Nj:Bn K t.CI "__init__" "Stretch.__init__" Vc aL8 t.Nj t.AbQ
 Nk:Bn K t.CI "lay_place" "Stretch.lay_place" Aa3 aHs t.Nk t.AbR
 ND:AS K t.CI "size"
 Vs:AS K t.CI "starts"
 RG:AS K t.CI "ends"
 Vt:AS K t.CI "longs"
 Vu:AS K t.CI "inner"
 Vv:AS K t.CI "cuts"
 NE:AS K t.CI "twins"
 B6:Fa K mg "Places" t.A_ t.Nl
 Nl:Bn K t.A_ "__init__" "Places.__init__" Ly aL9 t.Nl t.AbT
 Ix:Bn K t.A_ "twice" "Places.twice" Aa4 aBD t.Ix t.AbU
 Kv:Bn K t.A_ "after_syllable" "Places.after_syllable" Aa5 aCQ t.Kv t.AbV
 Iy:Bn K t.A_ "before_syllable" "Places.before_syllable" Aa6 aCQ t.Iy t.AbW
 Iz:Bn K t.A_ "after_shape" "Places.after_shape" Aa7 aMa t.Iz t.AbX
 IF:AS K t.A_ "half"
 RH:AS K t.A_ "cuts"
 RI:AS K t.A_ "inner"
 Pg:AS K t.A_ "doors"
 RJ:AS K t.A_ "fitting"
 Ac9:AS K t.A_ "first"
 AcA:AS K t.A_ "done"
 RK:AS K t.A_ "twins"
 En:Fa K mg "Sort" t.CM t.Nm
 Nm:Bn K t.CM "__init__" "Sort.__init__" Aa8 aHt t.Nm t.AbY
 Ph:AS K t.CM "vowel_first"
 Pk:AS K t.CM "shapes"
 RL:AS K t.CM "cost"
 RM:AS K t.CM "words"
 EN:Fa K mg "Stock" t.Cp t.Nn
 Nn:Bn K t.Cp "__init__" "Stock.__init__" O_ aCR t.Nn t.Acb
 No:Bn K t.Cp "give_bits" "Stock.give_bits" Aa9 cK t.No t.Acc
 Pl:AS K t.Cp "most"
 AcB:AS K t.Cp "room"
 RN:AS K t.Cp "sorts"
 RO:AS K t.Cp "sort_of"
 CW:Fa K mg "Beginning" t.Dd t.LO
 LO:Bn K t.Dd "__init__" "Beginning.__init__" AaA aHu t.LO t.Acd
 NF:AS K t.Dd "row"
 Pm:AS K t.Dd "used"
 RP:AS K t.Dd "states"
 RQ:AS K t.Dd "room"
 Pn:AS K t.Dd "upcoming"
 Df:Fa K mg "RowFinder" t.CB t.Np
 Np:Bn K t.CB "__init__" "RowFinder.__init__" AaB aCR t.Np t.Ace
 Nq:Bn K t.CB "first_behind" "RowFinder.first_behind" AaC aCS t.Nq t.Acf
 Nr:Bn K t.CB "path_to" "RowFinder.path_to" AaD aCS t.Nr t.Acg
 Nt:Bn K t.CB "with_word" "RowFinder.with_word" AaE aBG t.Nt t.Ach
 Kw:Bn K t.CB "longer_by" "RowFinder.longer_by" AaF aBG t.Kw t.Aci
 Nu:Bn K t.CB "can_finish" "RowFinder.can_finish" AaG aBH t.Nu t.Acj
 Nv:Bn K t.CB "scans" "RowFinder.scans" AaH aBH t.Nv t.Ack
 Jt:AS K t.CB "stock"
 NG:AS K t.CB "places"
 Vw:AS K t.CB "finisher"
 Ca:Fa K mg "Scansion" t.Dq t.LP
 LP:Bn K t.Dq "__init__" "Scansion.__init__" AaI aHv t.LP t.Acl
 Nw:Bn K t.Dq "fits" "Scansion.fits" AaJ aMb t.Nw t.Acm
 Kx:Bn K t.Dq "meets_cut" "Scansion.meets_cut" AaK aMc t.Kx t.Acn
 I0:Bn K t.Dq "count_by_way" "Scansion.count_by_way" AaL aHw t.I0 t.Aco
 Ny:Bn K t.Dq "count_from" "Scansion.count_from" Vh aMd t.Ny t.Acp
 Nz:Bn K t.Dq "count_all" "Scansion.count_all" AaM cK t.Nz t.Acq
 N0:Bn K t.Dq "way_numbered" "Scansion.way_numbered" AaN (qP "k") t.N0 t.Acr
 RS:AS K t.Dq "feet"
 Vx:AS K t.Dq "cuts"
 NH:AS K t.Dq "syllables"
 RT:AS K t.Dq "met_values"
 RU:AS K t.Dq "counts"
 Vy:AS K t.Dq "total"
 Eo:Fa K mg "Reader" t.Cy t.N2
 N2:Bn K t.Cy "__init__" "Reader.__init__" AaO aHx t.N2 t.Acs
 N3:Bn K t.Cy "is_at_end" "Reader.is_at_end" AaP cK t.N3 t.Act
 IA:Bn K t.Cy "read_number" "Reader.read_number" AaQ cK t.IA t.Acu
 Kz:Bn K t.Cy "read_list" "Reader.read_list" AaR cK t.Kz t.Acv
 N4:Bn K t.Cy "read_lists" "Reader.read_lists" Vi cK t.N4 t.Acw
 RV:AS K t.Cy "numbers"
 LY:AS K t.Cy "at"
 AjU:BY mg "VOWELS" (nK "aeiouyAEIOUY")
 AcC:BY mg "LETTERS" (mI8 nK)
 AcD:BY mg "BLANK" (nK " ")
 AjV:BY mg "MEASURE_SIGNS" (nK "-u|,;.0123456789")
 AcE:mg "PAIRS"=some (mF t.LS)
 AjW:N6 K t.LS aHy
 AjX:mg "DOUBLES"=some (mF t.Pa)
 AjY:N6 K t.Pa aHz
 AjZ:mg "STOPS"=some (mF t.Pb)
 Aj_:N6 K t.Pb aHA
 Aka:mg "LIQUIDS"=some (mF t.Pc)
 Akb:N6 K t.Pc aHB
 Akc:BY mg "SHORT" cB
 Akd:BY mg "LONG" (mE 1)
 AcF:BY mg "EITHER" (mE 2)
 AcG:BY mg "EMPTY" cB
 Ake:BY mg "SINGLE" (mE 1)
 Akf:BY mg "LOOSE" (mE 2)
 Vz:BY mg "HEAVY" (mE 3)
 LZ:BY mg "START" aCT
 Po:mg "LENGTHS"=some (mF t.FT)
 Akg:N6 K t.FT aTo
 V0:BY mg "LINE_MOST" (mE 255)
 AcH:BY mg "SYLLABLES_MOST" (mE 64)
 V1:BY mg "WORD_END" aCT
 Akh:BY mg "MEASURE_MOST" (mE 255)
 AcI:BY mg "FEET_MOST" (mE 16)
 Aki:BY mg "WAYS_MOST" aCT
 AcJ:BY mg "PLACES_MOST" aCT
 Akj:BY mg "CUTS_MOST" (mE 8)
 V2:BY mg "LONG_SIGN" (nK "-")
 Akk:BY mg "SHORT_SIGN" (nK "u")
 V3:BY mg "ANY" (mE 1000)
 Akl:BY mg "NOTES_MOST" (mE 300000)
 Akm:BY mg "LACKS_MOST" (mE 2000)
 Akn:BY mg "SPEAK" cB
 Ako:BY mg "SCAN" (mE 1)
 Akp:BY mg "WAY" (mE 2)
 V4:BY mg "BAD_FIRST" (mE (-22))
 AcK:BY mg "BAD_SECOND" (mE (-23))
 Akq:BY mg "BAD_THIRD" (mE (-24))
 AcL:BY mg "UNSPEAKABLE" (mE (-71))
 Akr:BY mg "NO_MORE" (mE (-2))
 Aks:BY mg "SCAN_MOST" (mE 1000000)
 Akt:BY mg "WORD_MOST" (mE 23)
 Aku:BY mg "STOCK_MOST" (mE 64)
 Akv:BY mg "ROW_MOST" (mE 12)
 B7:mg "len"=none
 L_:mg "range"=none
 Ma:zA mg=none
 K0:mg "zip"=none
 RX:mg "min"=none
 Akw:mg "max"=none
 K3:mg "sum"=none
 AcM:mg "sorted"=none
 AcN:mg "reversed"=none
 Akx:mg "str"=none
 Aky:mg "list"=none
 AcO:mg "tuple"=none
 Akz:mg "set"=none
 Ak0:mg "ord"=none
 RY:mg "all"=none
end Vp
namespace Vp
open PySem PySem.Spec L2
theorem B8:mAH "len":=by decide+kernel
theorem Ak1:mAH "ord":=by decide+kernel
theorem RZ:mAH "all":=by decide+kernel
theorem K4:mAH "sum":=by decide+kernel
theorem R_:mAH "min":=by decide+kernel
theorem Ak2:mAH "max":=by decide+kernel
theorem Ak3:mBV "str":=by decide+kernel
theorem Ak4:mBV "list":=by decide+kernel
theorem AcP:mBV "tuple":=by decide+kernel
theorem Ak5:mBV "set":=by decide+kernel
theorem AcQ:mAH "sorted":=by decide+kernel
theorem Ab.Aa(h:pP p):Ab H (qV o):=λb u e=>by rw[nZ h];exact e
theorem Ab.BG(s:fS)(h:pP p):Ab H (L2.Aa H1 p o):=λb u e=>by rw[nZ h];exact s b u e
def CC(D:Addr)(H H':Hp):Prop:=∀b o,b≠D->H b=aH -> eN=aH
theorem CC.refl:CC D H H:=λ_ _ _ h=>h
theorem CC.trans(a:CC D H H1)(b:CC D H1 g):CC D H g:=λc o n h=>b c o n (a c o n h)
theorem CC.Ak6(s:aO):CC D H H':=λb o _ h=>s b o h
theorem CC.Aa:CC D H (L2.Aa H D o):=λb u n h=>by rw[Ah n];exact h
theorem CC.same(e:CC D H H')(h:pP D):Ab H H':=λb o q=>e b o (AR q h) q
theorem Fn{J:It}{g:TG}{a:TS}{D:Hv}(n:Nat)(Pv:aCs)(h0:uN 0)
 (b:∀i σ H,i<n->uN i-> lE) (c:∀σ H,uN n->xG n)
 (hs:∀i σ H x H',i<n->uN i-> lF ->g x σ H' λd e=>a {D with nx:=aAr,ct:=aAr,bk:=D.nx} d e)
 (hd:mDe n):
 ∃W:aCu,aEe /\∀i m σ H,aCv ->
  (xG i/\sX H)\/(lE /\∃N:gF,(∀f H',N f H'->∃h,h<m/\W (i+1) h f H')/\∀x H',lF ->g x σ H' λd e=>a {D with nx:=N,ct:=N,bk:=D.nx} d e):=by
 refine(mDg n);rintro i m σ H ⟨rfl,j,p⟩;by_cases k:i<n
 .exact .inr (b i σ H k p,aAr,λf H' l=>(126,k,l),λx H' y=>hs i σ H x H' k p y)
 grind
theorem EA{J:It}{g:TG}{tt:TT}{a:TE}{c:hI}(n:Nat)(Pv:vE Nat)(h0:Pv 0 (qM H1 D))
 (d:∀i H,i<n->Pv i H-> lE) (e:∀H,Pv n H->xG n)
 (hs:∀i H x H',i<n->Pv i H-> lF ->g x eB H' λf h=>Co f vs=eB /\tt f h λb j=>
  if b=true then a f j λy k=>∃acc,k D=aBv /\acc.length<sizeLine/\Pv (i+1) (yY k) else Pv (i+1) j) (hd:∀H,Pv n H->c H):
 ∃W:aEu,aLp /\∀i m H,W i m H->
  (xG i/\c H)\/(lE /\∃l:hI,(mNc l i)/\∀x H',lF ->g x eB H' λf h=>Co f vs=eB /\tt f h λb j=>
   if b=true then a f j λy k=>∃acc,k D=aBv /\acc.length<sizeLine/\l (yY k) else l j):=by
 refine(λi m H=>m=n - i/\i<=n/\Pv i H,(n,9,aR,h0),5);rintro i m H ⟨rfl,q,p⟩;by_cases r:i<n
 .exact .inr (d i H r p,aAr,λH' s=>(126,r,s),λx H' y=>hs i H x H' r p y)
 grind
theorem F6{J:It}{g:TG}{tt:TT}{a:TE}{c:hI}(n:Nat)(d:nA H1 D)(aa:pX n)
 (R:Nat->V->Hp->Prop) (f:∀j v H H',R j v H->CC D H H'->R j v H')
 (k:∀i H,i<n->tD H-> lE) (l:∀H,tD H->xG n)
 (hs:∀i H x H',i<n->tD H->H D≠none-> lF ->∀Kt:vE V,(∀y s,Ab H s->R i y s->Kt y s)->
  g x eB H' λu z=>Co u vs=eB /\tt u z λb C=>if b=true then a u C Kt else False)
 (hd:∀H ys,tD H->H D=nV ys->ys.length=n->(∀j v,ys[j]? =bJ ->R j v H)->c H)
 (E:∀x G H'(A B:gF),(∀u z,A u z->B u z)->g x G H' A->g x G H' B)
 (I:∀G H'(A B:lC),(∀b z,A b z->B b z)->tt G H' A->tt G H' B):
 ∃W:aEu,aLp /\∀i m H,W i m H->
  (xG i/\c H)\/(lE /\∃L:hI,(∀H',L H'->∃M,M<m/\W (i+1) M H')/\∀x H',lF ->g x eB H' λu z=>Co u vs=eB /\tt u z λb C=>
   if b=true then a u C λy s=>∃acc,s D=aBv /\acc.length<sizeLine/\L (yY s) else L C):=by
 refine EA n (λi H=>tD H/\∃ys,H D=nV ys/\ys.length=i/\∀j v,ys[j]? =bJ ->R j v H) (mP d,[],88,λj v h=>by simp at h)
  (λi H N p=>k i H N p.1) (λH p=>l H p.1) (λi H x H' N p y=>?_) λH p=>?_
 .obtain⟨O,ys,hy,Q,T⟩:=p;refine E _ _ _ _ _ (λu z q=>(q.1,I _ _ _ _ (λb C r=>?_) q.2)) (hs i H x H' N O (pD hy) y
   (λy s=>∃acc,s D=aBv /\acc.length<sizeLine/\(tD (yY s)/\∃zs,(yY s) D=nV zs/\zs.length=i+1/\∀j v,zs[j]? =bJ ->R j v (yY s))) λy s s4 U=>?_)
  .grind
  refine(ys,vJ hy,4,qH (λb o e=>s4 b o (pQ O)) d,ys++[y],Af,by simp[Q],λj v hj=>?_);by_cases Y:j<ys.length
  .rw[Ask Y] at hj;exact f j v H _ (T j v hj) (mI9 (CC.Ak6 s4))
  have ab:=(nS hj).1;simp at ab;have e:j=ys.length:=aA;subst e;rw[lL] at hj;simp at hj;subst hj;rw[Q];exact f i _ s _ U CC.Aa
 grind
theorem G_:∀x a H'(A B:gF),aTp ->EY i x a H' A->EY i x a H' B:=λ_ _ _ _ _ h q=>mC h q
theorem F7:∀a H'(A B:lC),aTp ->MF a H' A->MF a H' B:=λ_ _ _ _ h q=>mC h q
theorem V5:∀x b H'(A B:gF),(∀c d,A c d->B c d)->QE K 2 aTq x b H' A->QE K 2 aTq x b H' B:=by rintro x b H' A B h ⟨a,xs,e,s,l,v,r,f,v2,g,e3,k,q⟩;exact(a,xs,e,s,l,v,r,f,v2,g,e3,k,mC h q)
abbrev mk(l:aB):Str:=⟨l.toArray⟩
theorem Fo(l:aB):sJ aAB=l:=rfl
theorem BT(l:aB):tO mk l l.length:=by simp[Str.length]
theorem Pp(h:aV=l):x=mk l:=TL.Rv h
theorem AcR(x y:Str):decide (wB x=wB y)=decide (aV=sJ y):=by apply At0.mpr;exact(λe=>by cases e;rfl,λe=>by rw[TL.Rv e])
theorem AcS(x y:Str):(x==y)=decide (aV=sJ y):=by
 by_cases e:x=y
 .subst e;simp
 have:aV ≠TL.tl y:=λq=>e (TL.Rv q);grind
theorem AL(h:n<=16777216):pX n:=by rw[AuP];exact h
theorem BA(h:n<16777216):n<sizeLine:=by rw[AuP];exact h
theorem Ak7:EM X "str.isupper" (λx xs H Q=>∃a,x= nK a/\xs=[]/\True/\rG (mFX a)):=
 mt0 (C:=λ_=>True) (g:=λa=> .bl (mFX a)) λ_ _ s _ _ h=>PySem.SC.isupper aTf
section
variable {X:Cx} {K:PySem.W.Frag}
theorem F8(a:cH)(hc:fN)(h:OE X es t)
 (b:tO yT es n:=by rfl) (c:(yT es).findIdx? (·.1)=none:=by rfl):PG X (mH8 k) (QE K n t):=by subst a;exact AhA hc h b c
theorem Ap(a:cH)(he:nR e b)(hb:uP e f):PE X aK1 (FJ K b f):=by subst a;exact Ain he hb
theorem B9(a:cH):MC X (QX K):=by subst a;exact Ln
theorem BH(a:cH):MC X (HA K):=by subst a;exact Ai5
theorem IG(a:cH):MB X (U1 K):=by subst a;exact U2
theorem Ak8(a:cH):MB X (Uy K):=by subst a;exact Ai2
theorem V6(a:cH):Bt X aGH (Ra K false):=by subst a;exact ME
theorem AcT(a:cH):Bt X aRZ (Ra K true):=by subst a;exact YT
theorem C4(a:cH):DW X aEr (mIE K):=by subst a;exact Rb
theorem AcU(a:cH):DW X hB (mMB K):=by subst a;exact AiB
theorem K5(a:cH)(hc:fN):DW X (tT "sum") (Zd K):=by subst a;exact AiK hc
theorem Ak9(a:cH)(hc:fN):DW X (tT "max") (Ze K):=by subst a;exact AiL hc
theorem Sa(a:cH)(hc:fN):DW X (tT "all") (Zi K):=by subst a;exact AiP hc
theorem AcV(a:cH):EM X "list.index" (Zf K):=by subst a;exact AiM
theorem Dz{T id:String}(a:cH)(b:aGI)(slot:mBP T)(c:aCB)(hm:aCC)(d:kB)(ha:aBp)
 (f:uP o name:=by rfl)
 (g:((mDH h gP).all aGJ&&(mFr h).all aTr
  &&decide (gP.length+([]:aEn).length+aGK<30))=true:=by rfl)
 (i:wF h.line:=by rfl) (hs:aAw:=by rfl) (j:(mDH h es).any (·.1)=false:=by rfl):
 PE X (mBQ gP h) (Rc K T r to t):=by subst a;exact YW b slot c hm d ha f g i hs j
def V7(K:PySem.W.Frag)(a:TE):TT:=λσ H Q=>a σ H λx H'=>∃k,Um K x H' k/\oJ k
theorem Ep(b:cH)(ha:nR a c)(he:mH7 a a.pos):
 PT X a (V7 K c):=by subst b;exact Uo ha he
theorem BJ(a:cH)(b:nR l tl):PI X c l (QG K tl):=by subst a;exact Yv b
theorem V8(a:cH)(b:nR l tl):PI X c l (Yu K tl):=by subst a;exact AhG b
end
end Vp
namespace L2
open PySem PySem.Spec PyProof.Rows
theorem AkA{RR:vE V}{P:Program}{w:World}{K:PySem.W.Frag}{mg c:aN}{f:Kf}{k:Nat}{g a:Addr}{fd:FuncData}{x:Str}{sp:Sp}{i:Shared}{vs:aT}{ns:bG}
 (j:K.In i.heap) (l:mAI i.heap.Ns mg) (hb:i.heap.Ns builtinsNs c) (p:∀x:Str,x≠"__name__"->c x=mE9 x) (y:i.heap.NoLimit) (hg:i.gens=#[])
 (ha:mIC i.heap.get? a aMe) (A:mBS vs) (B:mFl pX) (C:Dj k callerA)
 (F:∀base:Heap,K.In base->mAI base.Ns mg->A4 P w K mg base f k g fd [x] sp) (D:mNd x)
 (E:∀H:Hp,UT H-> iC ->sp cP H RR λ_ _ _=>False)
 (G:∀H e I,f [] H i (λ_ _ _=>False) e I->False):
 codeAny aAp callerA aTs aTt i:=by
 have J:=ZJ A;have L:=A.length;have core:∀H:Hp,UT H-> iC ->Cm P w H i.heap->(∀b,H b≠none->b=a)->(H a≠none->rS a=none)->
  codeAny aAp callerA aTs aTt i:=by
  intro H M aa Av N ab;have base_of:∀{b:Addr}{o:Obj},i.heap.get? b=aH ->H b=none-> aED.get? b=some o:=λe n=>Ahu e n;have ac:∀{b:Addr}{o:Obj}{es:aCK}{ep:Nat},i.heap.get? b=aH ->o.data= aAl ->H b=none:=λ{b o es ep}e d=>by
   cases q:H b with
   |none=>rfl
   |some u=>
    have e':b=a:=N b (pD q);subst e';rw[ha] at e;cases e;have d':Data.seq vs.toArray _=Data.dict es ep:=d
    cases d'
  have O:∀{b:Addr}{m:aN},i.heap.Ns b m-> aED.Ns b m:=λ{b m}(o,es,ep,e,d,r)=>(o,68,base_of e (ac e d),d,r);have Q:K.In aED:=λb o e=>base_of (pQ j) (by
   cases q:H b with
   |none=>rfl
   |some u=>
    have e':b=a:=N b (pD q);subst e';rw[ab (pD q)] at e;cases e)
  have ae:Mod K mg aED:=(Q,O l,(c,O hb,p),let(af,ag,ah):=y;(af,O ag,ah));have ai:Lm P w K mg aED callerA [] i H:=(2,ae,λb o e=>Ahv e,Avy (Aht _ _),85,λb hb=>mFs b aP hb,Av,.of_eq hg);refine Awm ((F _ Q (O l)).Ik callerA [] i H (cP,[]) cP cP _ _ C ai (D i aI) (wC rfl) (E H M aa)) λr I h=>?_
  cases r with
  |error e=>exact(G H e I h).elim
  |ok fl=>
   cases fl with
   |next=>exact sH h
   |brk=>exact sH h
   |cont=>exact sH h
   |ret u=>
    obtain⟨v,H',os,DM,un,T,aj,q⟩:=h;refine((u,v,H',2,T,aj,q),OldK.of_keep λb o e=>?_,os,DM)
    cases q:H b with
    |none=>exact un.keep b o e q (by intro z;exact mFs b aP z) aC
    |some u=>
     rcases M b with z|⟨ak,xs,z⟩
     .rw[q] at z;cases z
     have al:=un.F1 b ak _ z;obtain⟨U,_⟩:=Av b _ z;obtain⟨am,_⟩:=T b _ al;rw[e] at U;cases U;exact am
 cases hk:rS a with
 |some o=>
  have e:=j a o hk;rw[ha] at e
  cases e
  refine core aK0 (λ_=> aZ) (mI (_,vs.toArray,_,hk,29,2,by rw[As2,L];exact B,by simpa using J)) (λb u z=>by have Y:(none:oG HO)=some u:=z;cases Y) (λb z=>uK z) λz=>uK z
 |none=>
  refine core (λb=>if b=a then mB (.Bw {cls:= fJ,data:= aMe} (.Ac iB)) else none) (λb=>?_) (mCT ({cls:= fJ,data:= aMe},bE)) (λb u z=>?_) (λb z=>?_) λ_=>hk
  .by_cases hb:b=a
   .exact mI (19,mK hb)
   exact mH (mM hb)
  .by_cases hb:b=a
   .have Y:=(mK hb).symm.trans z
    cases Y
    subst hb;exact(ha,by rw[ArX];exact B,vs,_,J,ha)
   have Y:=(mM hb).symm.trans z
   cases Y
  by_cases hb:b=a
  .exact hb
  exact nL (mM hb) z
end L2
namespace Vp
open PySem PySem.Spec L2 PySem.W
theorem AcW{R:WRecords}{cl:Str-> hV}{h:Heap}:∀{zs:bG}{a:aT},AB (zs.map V.int) a->ReadsAllW R cl h a (zs.map WData.int) []
 |[],_,.nil=> .nil
 |z::zs,_,.cons r b=>by
  obtain⟨t,rfl⟩:=r;exact .cons (as:=[]) (bs:=[]) (.int z t) (AcW b)
theorem AkB{r:OpenSpec}{n k:Nat}{q:Program}{loose:bZ}{b:aN ->Heap->Prop}{c:mIc World}{d:DefRec}{K:Params->PySem.W.Frag}{sp:aTu}{x:Str}(ok:bG ->Prop)(f:bG -> bG)
 (g:pX n) (i:d.params.defaults=[]) (j:Dj k callerA)
 (l:∀args,r.pre args=true->∃ns:bG,args=aCU /\ns.length<=n/\ok ns)
 (p:∀ns:bG,ok ns->r.pre aCU=true->mNe r.post f=true)
 (z:∀(w:World)(h:Heap),c w h-> aEE.In h)
 (F:∀(w:World)(mg:aN)(A:Addr)(h:Heap),aEE.In h-> aHC ->mg d.name=mG A->
  ∃fd:FuncData,(mNd x)/\
   ∀base:Heap,aEE.In base->mAI base.Ns mg->A4 r.prog w aEE mg base A9 k A fd [x] (sp aEE))
 (B:∀(K:PySem.W.Frag)(H:Hp)(a:Addr)(ns:bG),ok ns->UT H-> iC ->sp K cP H (mNf mF f) λ_ _ _=>False):
 PySem.W.WalkOS q loose b c r d [] (λf vs=>PySem.call f vs):=by
 intro w aa ab mg ac G Y A o pm cd doc C kV ae hd af E I hg args vals as J ag ah L ai;obtain rfl:C= .none:=Dflts.none E i;obtain rfl:kV= .none:=Dflts.noKw E;obtain⟨ns,rfl,hlen,Av⟩:=l args J;have M:=z w _ Y;obtain⟨fd,hb,hF⟩:=F w mg A _ M G.T.g I
 cases L with
 |cons N O=>
  cases O
  cases N with
  |list Q T=>
   refine enter_call (Awm (AkA (RR:=λv H'=>∃D,v= hL /\ dQ=nV ((f ns).map V.int)) M G.T.g G.T.b G.T.builtins G.T.nolimit hg Q (ZI.AjT ns _ T) (AsV hlen g) j hF hb (λH U aj=>B _ H _ ns Av U aj) (λH e ak h=>?_)) λres ak hq=>?_)
   .exact h
   obtain⟨⟨v,y,H',rfl,al,am,D,rfl,an⟩,ao,ap,h4⟩:=hq;obtain rfl:v=Value.ref D:=am;obtain⟨_,aq,m,ar,au⟩:=mC al an;exact(.inl (hL,.list ((f ns).map WData.int),[D],2,lM,.list (as:=[]) au rfl rfl (by simpa using AcW ar),p ns Av J,λhu=>by cases hu),ao,ap,h4)
def NI(ns:bG):Prop:=ns.length<=30000/\ aMf /\PyKgz.answers_asked ns=true
end Vp
namespace Vp
open PySem PySem.W
abbrev RW:=PySem.Challenge.rw_versefeet_s01_answers
theorem AcX(h:nI RW.pre args):∃ns:bG,aTv=mB (ns,(),)/\args=aCU /\ns.length<=30000/\NI ns:=by
 unfold OpenSpec.pre at h
 cases e:aTv with
 |none=>rw[e] at h;cases h
 |some a=>
  obtain⟨b,c⟩:=rW Codec.encAll_of_decAll e;obtain⟨ns,u⟩:=a;rw[e] at h;have h4:oO (Codec.inList 0 30000 (Codec.inInt 0 4294967295) ns&&true):=c;simp only[Codec.inList,Codec.inLen,Codec.inNat,Bool.and_eq_true,decide_eq_true_eq,and_true] at h4;have d:aMf:=λz hz=>by have:=vW h4.2 z hz;simp only[Codec.inInt,Bool.and_eq_true,decide_eq_true_eq] at this;exact this.1
  exact(ns,2,b,h4.1.2,h4.1.2,d,h)
theorem AkC(args:mY WData)(h:nI RW.pre args):∃ns:bG,args=aCU /\ns.length<=30000/\NI ns:=by obtain⟨ns,_,a,b,c⟩:=AcX h;exact(ns,a,b,c)
theorem AkD(ns:bG)(_:NI ns)(h:nI RW.pre aCU):mNe RW.post PyKgz.answers=true:=by
 obtain⟨ms,a,b,_,_⟩:=AcX h;have e:ns=ms:=by
  injection b with b _
  injection b with b
  exact Codec.map_inj WData.int aTw _ _ b
 subst e;unfold OpenSpec.post;rw[a];exact same_self _
end Vp
namespace Vp
open PySem PySem.Spec L2
variable {K:PySem.W.Frag}
abbrev V9(x qual:Str)(st:Stmt)(a:bZ):Prop:=∀(b doc pm:Value)(an:hV)(c ct:Value)(us:aT),us.length=a.length->mIq (PySem.W.fnOf x qual (Jq st) (Im st) aG6 .none b doc pm an c ct)=pure (a.zip us)
theorem AkE{mg:aN}{h:Heap}{x:Str}{st:Stmt}{b:bZ}{f:Addr}{d:Value}{od an:hV}{e:aG5}{g doc pm i ct:Value}(j:K.In h)(G:aHC)(hb:V9 x x st b)(a:mAI mDI x=oZ mG f)(l:rS f=mFt d (mNg i) e)
 (c:PySem.W.codeIn K i x=true) (k:mDn K):BN K mg x st b f (mNg i):=(aHD,aHD.Kh hb,AvU j G a)
theorem AkF{C:Addr}{x qual:Str}{st:Stmt}{b:bZ}{f:Addr}{d:Value}{od an:hV}{e:aG5}{g doc pm h ct:Value}(hb:V9 x qual st b)(a:yV x=oZ mG f)(i:mDk f=true)
 (l:rS f=mFt d aTx e)
 (c:mFu h=true) (k:mDn K):Bn K C x qual st b f aTx:=(aHD,aHD.Kh hb,(mO a i k))
theorem AkG{mg:aN}{h:Heap}{x:Str}{C i:Addr}(b:K.In h)(G:aHC)(a:mAI mDI x=oZ mG C)(c:GV K C)(m:oO aKS)(e:aKT=oZ mG i)(f:mDk i=true)(k:mDl K C=true):Fa K mg x C i:=(c,AvU b G a,(m,e,f,k))
theorem AkH{mg:aN}{h:Heap}{x:Str}{u:Value}{v:V}(b:K.In h)(G:aHC)(a:mAI mDI x=mB aM)(r:fH):BY mg x v:=(u,AvU b G a,r)
theorem AkI{A:Addr}{o:Obj}{a:jX}{n:Nat}{vs:aK}(l:rS A=aH)(r:o.cls= hB /\o.data= mAh a/\a.size<=sizeLine/\AB vs a.toList):N6 K A vs:=(o,a,n,l,r)
def VB(K:PySem.W.Frag)(C:Addr):Prop:=∃(nm q:Str)(N:Addr)(bs:aT)(a:Bool)(sn:bZ)(sub:aT)(b:Bool)(col:oG Bool)(dd:hV)(c d e f g:aCm)(newId:String),
 rS C=aTy /\ aTz=true/\ aMg=kD /\ aMh=kD
theorem AkJ{C N:Addr}{nm q:Str}{bs:aT}{b:Bool}{sn:bZ}{sub:aT}{c:Bool}{col:oG Bool}{dd:hV}{d f g h i:aCm}{newId:String}{j:Value}{od:hV}{es:aCK}{ep:Nat}{k:aG5}
 (l:rS C=some (excClassObj nm q C N bs [oE "object"] b sn sub c col dd d f g h i newId)) (n:rS N=mB (j,od,aAl,k)) (a:oO (es.all λe=>match e.key with| .str _ _=>true|_=>false)) (e:aMg=kD) (e':aMh=kD):VB K C:=
 (nm,q,N,bs,b,sn,sub,c,col,dd,d,f,g,h,i,newId,l,by unfold PySem.W.nsOkIn;rw[n];exact a,e,e')
end Vp
section
open PySem PySem.W L2
set_option hygiene false
local macro_rules|`(bnd0)=>`(λ_ _ _ _ _ _ u h=>match u,h with|[],_=>rfl)|`(bnd1)=>`(λ_ _ _ _ _ _ u h=>match u,h with|[_],_=>rfl)|`(bnd2)=>`(λ_ _ _ _ _ _ u h=>match u,h with|[_,_],_=>rfl)|`(bnd3)=>`(λ_ _ _ _ _ _ u h=>match u,h with|[_,_,_],_=>rfl)|`(bnd4)=>`(λ_ _ _ _ _ _ u h=>match u,h with|[_,_,_,_],_=>rfl)|`(bnd5)=>`(λ_ _ _ _ _ _ u h=>match u,h with|[_,_,_,_,_],_=>rfl)|`(bnd6)=>`(λ_ _ _ _ _ _ u h=>match u,h with|[_,_,_,_,_,_],_=>rfl)|`(fnA $b)=>`(by dsimp only;refine' Vp.AkE KX G $b ?za ?zl ?zc ?zk;case za|zl|zc|zk=>k_is)|`(meA $b)=>`(by dsimp only;refine' Vp.AkF $b ?za ?zi ?zl ?zc ?zk;case za|zi|zl|zc|zk=>k_is)|`(clA)=>`(by dsimp only;refine' Vp.AkG KX G ?za ⟨?zp,?zh,?zq,?zs⟩ ?zm ?ze ?zf ?zk;case za|zp|zh|zq|zs|zm|ze|zf|zk=>k_is)|`(coA)=>`(by refine' Vp.AkH KX G ?za ?zr;(case za=>k_is);case zr=>exact⟨_,rfl⟩)|`(mgA)=>`(by dsimp only;refine' AvU KX G ?za;case za=>k_is)|`(noA)=>`(by refine' PySem.W.mg_none_of KX G ?za;case za=>k_is)|`(tuA)=>`(by dsimp only;refine' Vp.AkI ?zl ?zr;(case zl=>k_is);case zr=>exact⟨rfl,rfl,Vp.AL (by decide),by repeat first|exact .nil|refine .cons ⟨_,rfl⟩ ?_⟩)|`(cmA)=>`(by dsimp only;refine' Vp.AkJ ?zcl ?zcn ?zca ?zce ?zcf;(case zcl|zcn=>k_is);(case zca=>simp);case zce|zcf=>k_is)|`(atA)=>`(by dsimp only[L2.AS];k_is)
theorem Vp.U5 {p T:Prop} (hc:T) (main:p):p:=main
set_option maxRecDepth 100000 in
set_option maxHeartbeats 0 in
theorem Vp.early (sp:PySem.W.Frag→Sp) (gs:∀(K:PySem.W.Frag) (H:Hp) (a:Addr) (ns:List Int),Vp.NI ns→Ae K H a (ns.map V.int)→sp K [.ref a] H (λv H'=>∃D,v= .ref D∧H' D=some (.Ac ((PyKgz.answers ns).map V.int))) λ_ _ _=>False)
 (gf:∀(w:World) (K:PySem.W.Frag) (mg:Str→Option Value) (base:Heap) (t:Vp.Aw),Vp.VB K t.CM→Vp.Txt K mg t→A4 PySem.Challenge.rw_versefeet_s01_answers.prog w K mg base A9 59 t.answers t.R8 ["calls"] (sp K)):PySem.Challenge.rw_versefeet_s01_answers.Holds:=by
 have k1:=Vp.Agw;apply Vp.U5
 case main=>
  w_on;k_headS
  case hw=>exact⟨[.list [.int 0,.int 0,.int 1,.int 1,.int 97]],by decide+kernel,by decide+kernel⟩
 case hc=>
  k_fillS
  refine Vp.AkB (r:=PySem.Challenge.rw_versefeet_s01_answers) (n:=30000) (k:=59) (x:="calls") (sp:=sp) Vp.NI PyKgz.answers (by decide) rfl ⟨rfl,by decide,by decide⟩ Vp.AkC Vp.AkD (λw h Y=>PySem.W.kIn_of Y) ?F ?S
  case S=>exact λK H a ns Av _ hs=>gs K H a ns Av hs
  case F=>
   intro w mg fa h KX G hmg;have T:∃t,Vp.Txt (L2.UU KX) mg t∧Vp.VB (L2.UU KX) t.CM:=by dsimp only[L2.UU];exact⟨⟨_,_,_,_,_,_,_,_,_,_,_,_,_,_,_,_,_,_,_,_,_,_,_,_,_,_,_,_,_,_,_,_,_,_,_,_,_,_,_,_,_,_,_,_,_,_,_,_,_,_,_,_,_,_,_,_,_,_,_,_,_,_,_,_,_,_,_,_,_,_,_,_,_,_,_,_,_,_,_,_,_,_,_,_,_,_,_,_,_,_,_,_,_,_,_,_,_,_,_,_,_,_,_,_,_,_,_,_,_,_,_,_,_,_,_,_,_,_,_,_,_,_,_,_,_,_,_,_,_,_,_,_,_,_,_,_,_,_,_,_,_,_,_,_,_,_,_,_,_,_,_,_,_,_,_,_,_,_,_,_,_,_,_,_,_,_,_,_,_,_,_,_,_,_,_,_,_,_,_,_,_,_,_,_,_,_,_,_,_,_,_,_,_,_,_,_,_,_,_,_,_,_,_,_,_,_,_,_,_,_,_,_,_,_,_,_,_,_,_,_,_⟩,⟨fnA bnd2,fnA bnd2,fnA bnd2,fnA bnd1,fnA bnd1,fnA bnd1,fnA bnd1,fnA bnd1,fnA bnd2,fnA bnd1,fnA bnd1,fnA bnd1,fnA bnd1,fnA bnd1,fnA bnd1,fnA bnd1,fnA bnd2,fnA bnd2,fnA bnd1,fnA bnd1,fnA bnd1,fnA bnd1,fnA bnd1,fnA bnd0,fnA bnd2,fnA bnd3,fnA bnd3,fnA bnd1,fnA bnd2,fnA bnd3,fnA bnd2,fnA bnd2,fnA bnd1,fnA bnd2,fnA bnd2,fnA bnd3,fnA bnd1,fnA bnd3,fnA bnd4,fnA bnd3,fnA bnd1,clA,meA bnd2,atA,atA,clA,meA bnd2,atA,atA,clA,meA bnd3,atA,atA,clA,meA bnd5,atA,atA,atA,atA,clA,meA bnd3,meA bnd2,atA,atA,atA,atA,clA,meA bnd4,meA bnd4,meA bnd4,meA bnd2,meA bnd1,atA,atA,atA,atA,atA,atA,clA,meA bnd4,meA bnd5,meA bnd2,meA bnd2,meA bnd2,meA bnd3,meA bnd5,meA bnd3,meA bnd5,meA bnd6,meA bnd6,meA bnd2,meA bnd2,atA,atA,atA,atA,atA,clA,meA bnd4,meA bnd1,meA bnd2,meA bnd5,meA bnd3,atA,atA,atA,clA,meA bnd4,meA bnd3,atA,atA,atA,atA,atA,atA,atA,clA,meA bnd2,meA bnd2,meA bnd4,meA bnd4,meA bnd3,atA,atA,atA,atA,atA,atA,atA,atA,clA,meA bnd3,atA,atA,atA,atA,clA,meA bnd4,meA bnd1,atA,atA,atA,atA,clA,meA bnd5,atA,atA,atA,atA,atA,clA,meA bnd4,meA bnd2,meA bnd2,meA bnd3,meA bnd3,meA bnd2,meA bnd2,atA,atA,atA,clA,meA bnd3,meA bnd3,meA bnd4,meA bnd6,meA bnd3,meA bnd1,meA bnd2,atA,atA,atA,atA,atA,atA,clA,meA bnd2,meA bnd1,meA bnd1,meA bnd1,meA bnd1,atA,atA,coA,coA,coA,coA,mgA,tuA,mgA,tuA,mgA,tuA,mgA,tuA,coA,coA,coA,coA,coA,coA,coA,coA,mgA,tuA,coA,coA,coA,coA,coA,coA,coA,coA,coA,coA,coA,coA,coA,coA,coA,coA,coA,coA,coA,coA,coA,coA,coA,coA,coA,noA,noA,noA,noA,noA,noA,noA,noA,noA,noA,noA,noA,noA,noA,noA⟩,cmA⟩
   obtain⟨t,T,hc⟩:=T;have e0:=hmg.symm.trans T.answers.m
   cases e0
   obtain⟨oc,od,kv,doc,pm,an,cdv,ct,osl,efd,_,_⟩:=T.answers.F.ex;refine⟨t.R8,λs u=>?_,λbase _ _=>gf w _ mg base t hc T⟩;rw[efd];exact .of_eq ((λ_ _ _ _ _ _ u h=>match u,h with|[_],_=>rfl:Vp.V9 "answers" "answers" Vp.Vk ["calls"]) kv doc pm an cdv ct [u] rfl)
end
namespace Vp
open PySem PySem.Spec L2
section
variable {P:Program} {w:World} {K:PySem.W.Frag} {mg:aN} {base:Heap} {t:Aw}
def K6(x:aB)(ns:bG):V:=if ns.all (mJa x.any) then oK jG else .Ax
def AkK(K:PySem.W.Frag):Sp:=λvs H Q _=>∃(a:Addr)(ns:bG)(x:Str),vs=[aI,cX]/\ iC /\ns.length<=30000/\x.length<=100/\
 ∀H',aO ->oJ (K6 aV ns)
theorem Pq:AD aTA aLQ (A0 UV):=aG
def HG(l:aB)(n:Int):Option V:=if l.any (λc=>(c:Int)==n) then oZ oK [n.toNat] else none
theorem AkL(l:aB)(c:Nat)(n:Int):HG (l++[c]) n=if n=(c:Int) then oZ oK [c] else HG l n:=by unfold HG;grind
theorem AcY:∀l:aK,DP .Ax l=l.any λv=>decide (v= .Ax)
 |[]=>rfl
 |v::r=>by
  unfold DP at*;rw[Ata,Ata];have:=AcY r;unfold DP at this;rw[this]
  cases v<;>rfl
theorem AcZ(l:aB):∀ns:bG,DP .Ax (ns.map λn=>(HG l n).getD .Ax)= !ns.all (mJa l.any)
 |[]=>rfl
 |n::r=>by
  have a:=AcZ l r;rw[AcY] at a⊢;rw[Asn,Ata,AtJ,a];by_cases e:(l.any λc=>(c:Int)==n)=true
  .simp[HG,e]
  simp only[Bool.not_eq_true] at e;simp[HG,e]
theorem AkM:∀ys:bZ,sJ (Txt.join "" ys)=(ys.map TL.tl).flatten:=by
 intro ys;rw[TL.AjG,TL.ZB]
 induction ys with
 |nil=>rfl
 |cons y r a=>
  cases r with
  |nil=>simp[TL.OX]
  |cons z q=>
   simp only[List.map_cons,TL.OX,List.flatten_cons] at a⊢;rw[a];rfl
theorem VC(T:aD):A4 P w K mg base A9 1 t.Gx t.AaZ aLQ (AkK K):=by
 refine mBZ T.Gx.F.ok Pq
 .obtain⟨a,ns,x,rfl,_⟩:=h;rfl
 obtain⟨a,ns,x,rfl,f,g,hx,k⟩:=h;have hu:=F5 b;refine(_,(Ak (pY Pq.nd OT)
  (Ak (rJ (Ajx aQ) (oC 3 Pq.nd) (Ao (mB0 aW (Bh Aic rfl T.Ak0 Ak1 aHE) bF)))
  (Ak (HD (i:=4) rfl Pq.nd rfl rfl jH (Yv aL) (BZ (own:=[("number",5,)]) (xP aTA UV)) (pE 5 Pq.nd) cI (pZ (Ajn hu aW bQ aCV)))
  (Ak (zE (zF ME Da bI))
  (oL (AjN Ic bI)))))),5)
 intro d hd;refine(0,x,2,Fn aV.length (λi σ H1=>∃(l:hT)(v:bO),σ=[mG a,mB cX,mG d,v,none,none]/\CC d H H1/\H1 d=rK l/\l.length<=i/\∀n:Int,Bc l (Sum.inl n:C3)=HG (aV.take i) n)
  ([],58,2,CC.Aa,Af,aF,λn=>rfl) (λi σ H1 m _=>m) (λσ H1 _=>aF) ?_ ?_)
 .rintro i σ H1 v o m ⟨l,v0,rfl,p,hk,u,z⟩ ⟨rfl,c,hc,rfl⟩;have hc':pC aV[i]? c:=aF4;have hlen:aV.length<=100:=(uJ TL.Gv hx);refine(16,16,2,d,0,HF.k (k:=mBt (c:Int)) hk aBI,Dy l (mBt (c:Int)) (wE c),0,mI9 p,Af,AsV (uR Jo) aA,λn=>?_);rw[MI,AsA,hc',Atp,AkL,z];by_cases e:n=(c:Int)
  .rw[bU,mK (by rw[e])]
  rw[bN,vA e aQe]
 rintro σ H1 ⟨l,v,rfl,p,hk,u,z⟩;rw[AsC] at z;have C:∀o,CC d H1 o->Ab H o:=λo e=>CC.same (CC.trans p e) hd;refine(77,2,(_,aTB.seq f),λD ab=>?_);have G:∀o,tD o->Ab H o:=λo e=>mX aTB e;refine F6 ns.length ab eC (λj v _=>∃n,ns[j]? =mB n/\v=(HG aV n).getD .Ax) iE
  (λi o m s2=>(19,aHF.seq f,by rw[ArY,mJ m];rfl)) (λo s2=>(_,aHF.seq f,9)) ?_ ?_ G_ F7
 .rintro i o y ac m s2 ae ⟨rfl,hy⟩ Kt af;have I:=xQ (G _ s2).seq f;rw[ArY,mJ m] at I;simp only[Option.map_some,Option.some.injEq] at I;subst I;have J:=qA hk;refine(2,xR ?_);refine(0,d,2,mH (l,mH J),0,_,E8.k (k:=mBt ns[i]) J,5);rw[z];exact mV af fA (ns[i],by rw[mJ m],2)
 intro o ys s2 hy L M;have N:ys=ns.map λn=>(HG aV n).getD .Ax:=by
  apply AsJ;intro j;rw[ArY]
  cases e:ys[j]? with
  |none=>
   have:=iV;rw[lN];rfl
  |some v=>
   obtain⟨n,O,ag⟩:=wI M;rw[O,ag];rfl
 have JO:nI ys.all Fh:=by rw[N,Atw,AsL];intro n _;simp only[Function.comp,HG];split<;>rfl
 refine(mNh D JO);rw[N,AcZ];by_cases e:aTC=true
 .rw[e];refine cD;have U:ys=aHG.map V.str:=by
   rw[N,AsB];apply AsU;intro n O;have:=vW e n O;simp only[HG,this,if_true,Option.getD_some,Function.comp]
  refine(bY,0,_,D,aHG,29,mH (vF U mN hy),5,5)
  .have ah:(aHG.map (·.length)).sum=ns.length:=by
    rw[AsB];clear U N JO M L k f e
    induction ns with
    |nil=>rfl
    |cons n r Y=>
     rw[Asn,AtK,Y (by simp at g;omega),As1];show 1+_=_;omega
   rw[ah,ArX];show ns.length+ns.length*0<=_;omega
  have ai:Txt.join "" aHG=mk jG:=by
   apply Pp;rw[AkM,AsB];clear U N JO M L k f e g
   induction ns with
   |nil=>rfl
   |cons n r Y=>rw[Asn,Aub,Y];rfl
  rw[ai];have:=k o aHF;unfold K6 at this;rw[bU] at this;exact this
 have e':pG aTC:=hS;rw[e'];refine eD;have:=k o aHF;unfold K6 at this;rw[bN] at this;exact this
end
end Vp
namespace Vp
open PySem PySem.Spec L2 Vf
section
variable {P:Program} {w:World} {K:PySem.W.Frag} {mg:aN} {base:Heap} {t:Aw}
theorem Sb(h:sJ s=[k]):decide (wB ⟨#[c]⟩=wB s)=(c==k):=by rw[AcR,h];grind
theorem AkN(h:sJ s=m):decide (rX l=wB s)=decide (l=m):=by rw[AcR,h]
theorem Sc(h:i<aV.length):BX x.cps.toList (i:Int)=some (mFY i):=by apply AZ;grind
theorem Ac_(x:Str)(lo a:dP):sJ (MP x lo a)=(mAJ (mFZ lo)).take (HT.AK aV.length aV.length a - mFZ lo):=by unfold MP;rw[TL.Gv]
theorem AkO(x:Str)(h:sJ s=[k]):Txt.endswith x s=decide (aV.getLast? =mB k):=by
 have hs:=Pp h;subst hs;unfold Txt.endswith;rw[BT,TL.Gv,StrLaws.subAt_eq];show(decide (0+1<= aV.length)&&((mAJ (aV.length - 1)).take 1==[k]))=_;generalize TL.tl x=l;rcases AsR l with rfl|⟨r,c,rfl⟩
 .rfl
 grind
theorem Ada(n d k:Nat)(h:k<=n):HT.AK n d (mB (k:Int))=k:=by rw[HT.Hz];omega
def AkP:Sp:=λvs H Q _=>∃(x:Str)(i:Nat),vs=[cX,aCW]/\i<aV.length/\x.length<=1000/\rG aHH
theorem AkQ:AD aBB aBB (A0 ZM):=aG
theorem AkR:tX "h"=[104]:=by decide+kernel
theorem Adb:tX "u"=[117]:=by decide+kernel
theorem AkS:tX "q"=[113]:=by decide+kernel
theorem AkT(T:aD):A4 P w K mg base A9 1 t.Lz t.Aa_ aBB AkP:=by
 refine qI T.Lz.F.ok AkQ
 .obtain⟨x,i,rfl,_⟩:=h;rfl
 obtain⟨x,i,rfl,c,hx,k⟩:=h;have d:pX x.length:=eC;refine(_,(Ao (A3 (QC aTD (JY (OB aTD (JY (OY F.slot_str_endswith F.type_str_endswith AjK (F4 ZH aL Gu (EZ aQ)) Ic))))))),127,79);rw[Sb AkR];by_cases f:mFY i=104
 .rw[yW f];refine eD;have:aHH=true:=(by unfold GO Ge;rw[f];rfl);rw[this] at k;exact k
 rw[vC f];refine cD;refine(127,79);rw[Sb Adb];by_cases g:mFY i=117
 .rw[yW g];refine eD;refine(40,x,2,d,bY,8,5);rw[AkO _ AkS,Ac_];have e:decide (((mAJ (mFZ none)).take (HT.AK aV.length aV.length (mB1 mB) - mFZ none)).getLast? =mB 113)=GO aV i:=by
   rw[rW Ada (Avv c),HT.Ki,Atv,Nat.sub_zero];unfold GO Ge GN;rw[g]
   cases i with
   |zero=>simp
   |succ j=>
    have hj:j<aV.length:=aA;rw[List.getLast?_take];simp[List.getElem?_eq_getElem hj];rfl
  rw[e];exact k
 rw[vC g];refine cD;have:aHH=false:=by unfold GO Ge;rw[vC f,vC g];rfl
 rw[this] at k;exact k
theorem Adc(T:aD):A8 K H t.LS aHy:= mI T.AjW
theorem Mb(l:Vf.Txt):∀(ss:bZ)(ms:dD),ss.map TL.tl=ms->mDJ l (ss.map V.str)=decide (l∈ms)
 |[],_,rfl=>rfl
 |s::ss,_,rfl=>by
  have a:=Mb l ss _ rfl;unfold DP at a⊢;rw[Asn,Asn,Ata,a];show((s==aAB)||_)=_;rw[AcS];grind
theorem Ade:(aMi:bZ).map TL.tl=FF:=by decide+kernel
def AkU:Sp:=λvs H Q _=>∃(x:Str)(i:Nat),vs=[cX,aCW]/\i<aV.length/\x.length<=1000/\uO oK aCX
theorem Adf:AD ["word","at","pair"] aBB (A0 ZN):=aG
theorem AkV(T:aD):A4 P w K mg base A9 1 t.L5 t.Aba aBB AkU:=by
 refine qI T.L5.F.ok Adf
 .obtain⟨x,i,rfl,_⟩:=h;rfl
 obtain⟨x,i,rfl,c,hx,k⟩:=h;have d:pX x.length:=eC;refine(_,(Ak (pY Adf.nd (F4 ZH aL (EZ aQ) (EZ (vK aQ))))
  (Ao (A3 (Ie (zF ME aW aTE) aW (zG QY aL aQ))))),5)
 have hc:MP x (mB1 mB) (mB ((i:Int)+2))=mk aMj:=by apply Pp;rw[Ac_,rW Ada (Avv c)];rw[show((i:Int)+2)=((i+2:Nat):Int) by omega,HT.Hz];rw[List.take_eq_take_iff,AtH];omega
 refine(16,16,8,0,x,2,d,5);rw[hc];refine(117,5);rw[show mDJ aMj aHy=decide ((mAJ i).take 2∈FF) from(Mb aMj aMi _ Ade)];by_cases e:(mAJ i).take 2∈FF
 .rw[mU e];refine Au aAC;unfold D8 at k;rw[bU] at k;exact k
 rw[mS e];refine Az (127,5);unfold D8 at k;rw[bN] at k;exact k
def AkW:Sp:=λvs H Q _=>∃(x:Str),vs=[cX]/\x.length<=1000/\∀p H',H p=none-> aO ->H' p=nV (aCY.map λs=> oK s)->oJ aS
theorem Pr:AD ["word","sounds","at","sound"] ["word"] (A0 ZO):=aG
theorem AkX(T:aD):A4 P w K mg base A9 2 t.L7 t.Abb ["word"] AkW:=by
 refine qI T.L7.F.ok Pr
 .obtain⟨x,rfl,_⟩:=h;rfl
 obtain⟨x,rfl,hx,k⟩:=h;refine(_,(Ak (tE Pr.nd eU)
  (Ak (pY Pr.nd Ar)
  (Ak (Ka Asq (pB OJ aW aMk) (Ak (rL Pr.nd (Bb (AkV T) dR rfl T.L5.m T.L5.F.kp T.L5.b .nil Ay (oV aL aW)))
  (Ak (nG (Ff (D9 (Bb (AkT T) dR rfl T.Lz.m T.Lz.F.kp T.Lz.b .nil Ay (oV aL aW)))) (Ao (Cu (YW As3 AsH AsK E_ aQ aHE))))
  (Ao (mJb Pr.nd (wJ HB bF) Jn)))))
  aCZ))),5)
 refine(aR,hE);refine Yy (λσ H1=>∃(i:Nat)(v:bO)(S:dD),σ=[mB cX,bP,aC0,v]/\i<= aV.length/\CC p H H1/\H1 p=nV (S.map λs=> oK s)/\S.length<=i/\S++Cg (GN aV i) (mAJ i)=aCY)
  (λσ _=>match σ with|[_,_,some (.int i),_]=>aV.length - i.toNat|_=>0) (60,58,[],2,aR,CC.Aa,Af,aF,2) ?_ ?_
 .rintro σ H1 ⟨i,v,S,rfl,c,d,e,f,g⟩;have l:=TL.Gv x;refine(16,x,2,eC,55);refine ZK (λm=>?_) (λhge=>?_)
  .have n:i<aV.length:=(mCQ Aut m);have o:=AgU aV i;have q:=AgW aV i n;refine(16,x,i,2,n,hx,16,x,i,2,n,hx,0,5);have r:aTF=((i+aCX.length:Nat):Int):=(qT BT);have u:=AgV aV i n;have y:aV.length - aTF.toNat<aV.length - ((i:Int)).toNat:=(qT BT)
   cases B:aHH with
   |true=>
    refine cD;rw[B,bE,Atz] at q;exact(40,fT,8,(i+aCX.length,_,S,203,d,e,4,by rw[<-q];exact g),y)
   |false=>
    refine eD;rw[B] at q;refine(0,pL e,0,p,8,e,fU,40,fT,8,5);refine((i+aCX.length,_,S++[aCX],203,mI9 d,by rw[Af,As7];rfl,41,5),y);rw[<-g,q,At3];rfl
  have C:i=aV.length:=(by have:=hge;simp at this;omega);refine aAC;rw[C,AuI,Cg,Aum] at g;rw[g] at e;exact k p H1 hp (CC.same d hp) e
 rintro σ H1 D G hq ⟨v1,I,v2,J,z,e3,L,i,j,M,N,O,U,Y⟩;exact(v1,I,v2,J,z,e3,L,i,j,M,N,O,U,mC hq Y)
theorem AkY:tX "aeiouyAEIOUY"=M5:=by decide+kernel
def AkZ:Sp:=λvs H Q _=>∃(x:Str),vs=[cX]/\1<= aV.length/\x.length<=1000/\rG (Dp aV)
theorem Ak_:AD aG7 aG7 (A0 ZP):=aG
theorem Sd(T:aD):A4 P w K mg base A9 1 t.Fi t.Abc aG7 AkZ:=by
 refine qI T.Fi.F.ok Ak_
 .obtain⟨x,rfl,_⟩:=h;rfl
 obtain⟨x,rfl,c,hx,k⟩:=h;obtain⟨d,f,g⟩:=T.AjU;refine(_,(Ao (A3 (Hy AjO (zG QY aL Ar) (nT f g) aGE))),0,x,8,eC,Sc (i:=0) aA,8,5);have e:decide (mFY 0∈ aTG.cps.toList)=Dp aV:=by
  rw[show aTG.cps.toList=M5 from AkY]
  cases aV<;>rfl
 rw[e];exact k
theorem Ala:∀c,c<123->Kgz1.isLetter c=true->mFX (mk [c])=Kgz1.isCapital c:=by decide+kernel
theorem Alb(h:aTH):c<123:=by
 unfold Kgz1.isLetter at h;simp at h;rcases h with h|h
 .omega
 rw[Q3] at h;grind
def Alc:Sp:=λvs H Q _=>∃(l:Vf.Txt),vs=[oK l]/\GM l/\rG (HY l)
theorem Ald:AD aG8 aG8 (A0 ZQ):=aG
theorem Ale(T:aD):A4 P w K mg base A9 1 t.L9 t.Abd aG8 Alc:=by
 refine qI T.L9.F.ok Ald
 .obtain⟨l,rfl,_⟩:=h;rfl
 obtain⟨l,rfl,f,k⟩:=h;refine(_,(Ao (A3 (QC (Hy ME aL aTE aGE) (JY (AjM F.slot_str_isupper F.type_str_isupper Ak7 aL))))),117,5);rw[show mDJ l aHy=decide (l∈FF) from(Mb l aMi _ Ade)];by_cases e:l∈FF
 .rw[mU e];refine eD;have:nI HY l:=(by unfold HY;rw[mU e];rfl);rw[this] at k;exact k
 rw[mS e];refine Az (0,bY,0,2,85,5);have:mFX aAB=HY l:=by
  rcases f with⟨c,rfl,hc⟩|⟨c,d,rfl,hp⟩
  .rw[Ala c (Alb hc) hc];unfold HY;rw[mS e];rfl
  exact nL ((Q4 c d).mp hp) e
 rw[this];exact k
abbrev sv(ss:dD):List V:=ss.map λs=> oK s
def Adg(K:PySem.W.Frag):Sp:=λvs H Q _=>∃(a:Addr)(ss:dD),vs=cP /\tV aEF /\ aF6 /\ss.length<=1000/\
 ∀p H',aO ->Ae K H' p (sv (Hr ss))->oJ aS
theorem K7(h:GM s):1<=s.length/\s.length<=2:=by rcases h with⟨c,rfl,_⟩|⟨c,d,rfl,_⟩<;>simp
theorem Alf:tX "m"=[109]:=by decide+kernel
theorem Alg(xs:cL)(k:Nat)(hk:1<=k)(h:mFy k)(a:xs[xs.length - k]? =bJ):mDq xs (k:Int) v:=by unfold BX FK;grind
theorem Se(xs:aK)(k:Nat)(a:1<=k)(h:mFy k):mF0 xs (-(k:Int))=xs.take (xs.length - k):=by unfold Dx;rw[HT.Ki,Atv,Nat.sub_zero];congr 1;unfold HT.AK;grind
theorem Alh:AD aG9 aG9 (A0 ZR):=aG
theorem Ali(T:aD):A4 P w K mg base A9 2 t.LA t.Abe aG9 (Adg K):=by
 refine mB2 T.LA.F.ok Alh
 .obtain⟨a,ss,rfl,_⟩:=h;rfl
 obtain⟨a,ss,rfl,e,f,g,k⟩:=h;refine(_,(Ak (nG (PW.pt (Gq (Uo aL lM) aTI)) aTJ)
  (Ak (nG (PW.pt (Gq (pB Li aMl Ar) (Gq (uS (zG Ln aL fB) Ic) aTI))) aTJ)
  (oL aL))),5)
 refine(mNi e);rcases AsR ss with rfl|⟨r,z,rfl⟩
 .refine Az cD;refine(77,0,aAb,8,0,xS aAC);exact k a H fA e
 rw[Atk] at e f g k;have hlen:aHI.length=r.length+1:=aC;have i:mDq aHI 1 (oK z):=by have:aHI=sv r++[oK z]:=aC;rw[this];exact U0 _ _
 have hz:=f z aC;have he:oO (!aHI.isEmpty):=aC;rw[Atk,he];refine eD;refine(mNj i hz);have j:=Ahd r z;rw[Fo];by_cases l:Dp z=true
 .rw[l];refine mNk a e;refine aTK;rw[Af,show aMm= -((1:Nat):Int) from rfl,Se _ 1 aA aA,hlen,j,mK l];simp
 have m:pV Dp z:=(mR l);rw[m];refine cD;refine(mAK a e);rw[hlen];refine ZK (λn=>?_) (λhle=>?_)
 .have o:1<=r.length:=(mCQ Aut n);obtain⟨q,b,rfl⟩:∃q b,r=q++[b]:=by
   rcases AsR r with rfl|⟨q,b,rfl⟩
   .simp at o
   exact(q,b,Atk ..)
  have hb:=f b aC;have u:mDq aTL 2 (oK b):=by refine Alg aTL 2 aA aC ?_;simp
  refine(16,a,36,e,i,79);rw[AkN Alf];by_cases hm:z=[109]
  .rw[mU hm];refine eD;refine(mNj u hb);rw[Fo];by_cases v:Dp b=true
   .rw[v];refine mNk a e;refine aTK;rw[Af,show(-(2:Int))= -((2:Nat):Int) from rfl,Se _ 2 aA aC,j,mM l,mK (hm,b,9,v)];simp
   have x:pV Dp b:=(mR v);rw[x];refine Az aMn;rw[j,mM l,Asa]
   .exact e
   rintro⟨_,y,B,C⟩;simp at B;subst B;rw[x] at C;cases C
  rw[mS hm];refine xS aMn;rw[j,mM l,vA hm q.1];exact e
 have D:r=[]:=by have G:¬((1:Int)<((r.length+1:Nat):Int)):=λq=>hle (mU q);exact tY aA
 subst D;refine kF.mpr aMn;rw[j,mM l,Asa (λq=>by obtain⟨_,b,hb,_⟩:=q;simp at hb)];exact e
theorem Alj(T:aD):A8 K H t.Pa aHz:= mI T.AjY
theorem Alk(T:aD):A8 K H t.Pb aHA:= mI T.Aj_
theorem Alm(T:aD):A8 K H t.Pc aHB:= mI T.Akb
theorem Aln(c:Nat):mB3 aHz=Mx c:=by rw[show mB3 aHz=_ from(Mb [c] [("x":Str),"z"] [[120],[122]] aHJ)];unfold Mx;rw[Aty];simp
theorem Alo(c:Nat):mB3 aHA=Kgz1.mute c:=by rw[show mB3 aHA=_ from(Mb [c] [("b":Str),"c","d","f","g","p","t"] [[98],[99],[100],[102],[103],[112],[116]] aHJ)];unfold Kgz1.mute;rw[Aty];simp
theorem Alp(c:Nat):mB3 aHB=Kgz1.liquid c:=by rw[show mB3 aHB=_ from(Mb [c] [("l":Str),"r"] [[108],[114]] aHJ)];unfold Kgz1.liquid;rw[Aty];simp
abbrev cv(cs:aB):List V:=cs.map λc=> oK [c]
def Alq(K:PySem.W.Frag):Sp:=λvs H Q _=>∃(a:Addr)(cs:aB),vs=cP /\tV (cv cs)/\sY (Ez cs:Nat)
theorem Alr:AD aHa aHa (A0 ZS):=aG
theorem Adh(T:aD):A4 P w K mg base A9 1 t.Io t.Abf aHa (Alq K):=by
 refine T.Io.F.ok Alr cM (λf A outer s H vs Q E g h=>?_)
 .obtain⟨a,cs,rfl,_⟩:=h;rfl
 obtain⟨a,cs,rfl,i,k⟩:=h;obtain⟨l,m,n⟩:=T.AcG;obtain⟨o,p,u⟩:=T.Ake;obtain⟨x,y,z⟩:=T.Akf;obtain⟨B,C,D⟩:=T.Vz;refine(_,(Ak (nG (Ff (Uo aL lM)) (zH m n))
  (Ak (nG (PW.pt (Gq (xT aMl) (Jk (mJc YT t.Pa T.AjX)))) (zH p u))
  (Ak (nG (PW.pt (Gq (xT aMl) (Gq (mJc ME t.Pb T.AjZ) (Jk (mJc ME t.Pc T.Aka))))) (zH y z))
  (zH C D)))),5)
 refine(mNi i)
 match cs,i,k with
 |[],i,k=>exact Au k
 |[c],i,k=>
  refine cD;refine(mJd a i);refine(mJe i t.Pa Alj);rw[Aln]
  cases e:Mx c with
  |true=>
   refine cD;refine aTM;simp only[Ez,e,if_true] at k;exact k
  |false=>
   refine eD;simp only[Ez,e,Bool.false_eq_true,if_false] at k;exact k
 |[b,c],i,k=>
  refine cD;refine aTM;refine(mJd a i);refine(mJe i t.Pb Alk);rw[Alo]
  cases e:Kgz1.mute b with
  |false=>
   refine Az cD;simp only[Ez,e,Bool.false_and,Bool.false_eq_true,if_false] at k;exact k
  |true=>
   refine eD;refine(mJe i t.Pc Alm);rw[Alp]
   cases G:Kgz1.liquid c with
   |false=>
    refine cD;simp only[Ez,e,G,Bool.and_false,Bool.false_eq_true,if_false] at k;exact k
   |true=>
    refine eD;simp only[Ez,e,G,Bool.and_true,if_true] at k;exact k
 |b::c::d::r,i,k=>
  refine cD;have I:∀j:Int,j<=2->decide (mQ ((cv (b::c::d::r)).length:Nat)=mQ j)=false:=by
   intro j hj;apply Ar_;intro q;injection q with q
   simp at q;omega
  refine(mF1 a mH i);rw[I 1 bB];refine Az cD;refine(mF1 a mH i);rw[I 2 bB];exact xS k
def Als:Sp:=λvs H Q _=>∃(x y:Nat),vs=[aEG,mE (y:Int)]/\sY (BE x y:Nat)
theorem Fp(x y:Nat):decide (aMo=aMp)=decide (x=y):=by grind
theorem Alt:AD aHb aHb (A0 ZT):=aG
theorem Sf(T:aD):A4 P w K mg base A9 1 t.Fj t.Abg aHb Als:=by
 refine qI T.Fj.F.ok Alt
 .obtain⟨x,y,rfl,_⟩:=h;rfl
 obtain⟨x,y,rfl,k⟩:=h;obtain⟨c,d,e⟩:=T.AcG;obtain⟨f,g,i⟩:=T.LZ;obtain⟨j,l,m⟩:=T.Vz;refine(_,(Ak (nG (PW.pt (Id (mDK g i) (JX (uS aQ (nT d e))))) (oL aL))
  (Ak (nG (mDK d e) aCZ)
  (zH l m))),5)
 refine iF;unfold BE at k;rw[show decide (aMo=mQ 4)=decide (x=4) from Fp x 4];by_cases n:x=4
 .rw[mU n];rw[mK (mH n)] at k;exact xU aMq
 rw[mS n];refine Az iF;rw[show decide (aMp=iG)=decide (y=0) from Fp y 0];by_cases o:y=0
 .rw[mU o];rw[mK (mI o)] at k;exact Au aMq
 rw[mS o];rw[mM (λq=>q.elim n o)] at k;refine Az iF;rw[show decide (aMo=iG)=decide (x=0) from Fp x 0];by_cases p:x=0
 .rw[mU p];rw[mK p] at k;exact Au aMq
 rw[mS p];rw[mM p] at k;exact Az k
abbrev iv(l:aB):List V:=l.map λ(n:Nat)=>mQ (n:Int)
abbrev VD(Bk:Nat)(q:Addr):List gG:=[("lead",mE (Bk:Int),),("weights",mF q,)]
def DE(t:Aw)(H:Hp)(p:Addr)(sh:BU):Prop:=∃dx q,H p=mJf sh.Bk/\H q=nW sh.A2
theorem DE.same(h:wK p sh)(s:aO):DE t H' p sh:=by obtain⟨dx,q,g,i⟩:=h;exact(dx,q,nH g,nH i)
structure Alu(H0 H:Hp)(L R:Addr)(rl:bV)(lg:aEs)(ps:aP):Prop where
 r:H R=some (mAL ps.map)
 l:H L=some (.Ac (lg.map V.bl))
 len:ps.length=rl.length
 at_:∀(j:Nat)(p:Addr)(c:aB),ps[j]? =gH ->rl[j]? =bT ->H p=some (.Ac (cv c))
 nd:ps.Nodup
 lp:L∉ps
 rp:R∉ps
 lr:L≠R
 new:H0 L=none/\H0 R=none/\∀p∈ps,H0 p=none
def VE(K:PySem.W.Frag)(t:Aw):Sp:=λvs H Q _=>∃(p dx a:Addr)(ss:dD),vs=[aS,aI]/\H p=rM t.FR/\tV aEF /\ aF6 /\ss.length<=1000/\
 ∀H',aTN ->(∃q,H q=none/\H' p=mJf (DU lA).Bk/\H' q=nW (DU lA).A2)-> cU
abbrev Alv:List Str:=aTO
theorem Mc:AD aTO aL0 (A0 UW):=aG
theorem Adi(T:aD):A4 P w K mg base A9 2 t.LB t.Abh aL0 (VE K t):=by
 refine oW T.LB.F.ok Mc
 .obtain⟨p,dx,a,ss,rfl,_⟩:=h;rfl
 obtain⟨p,dx,a,ss,rfl,hp,ac,ae,af,k⟩:=h;obtain⟨ag,ah,ai⟩:=T.Vz;refine(_,(Ak (pY Mc.nd eU)
  (Ak (rL Mc.nd (tZ eU))
  (Ak (BS Asq rfl aEH (oC 4 Mc.nd) (Ao (AU (D9 (Bb (Sd T) bR rfl T.Fi.m T.Fi.F.kp T.Fi.b .nil Ay lO)) (Ak (Cu (mDL (mT (Bb (Ale T) bR rfl T.L9.m T.L9.F.kp T.L9.b .nil Ay lO))))
  (mB4 (mJg bF eU))) (mB4 (mNl (qQ bF fB) lO)))))
  (Ak (oF (mNm (mT (zI B9 3))))
  (Ao (AX aL (Dk rfl Mc.nd (mNn bF) (BZ (own:=[("is_heavy",5,),("run",6,)]) (xP Alv UW)) (λ_ _ _ _ _=>(mNo (mNp 5 (mNp 6 F2)))) cI (mDM (Ie (D9 bQ) aMr (mNm (mT cC))))) rfl)))))),5)
 refine(aR,λL aj=>(aR,λd ak=>(90,λR al=>?_)));have am:Ab H (qM H L):=mP aj;have s0:Ab H (mDN H L):=oR am ak;have an:L≠d:=AR (Af:Aa H L aEI L=_) ak;have ao:L≠R:=AR (by rw[Ah an];exact Af:(mDN H L) L=some _) al;have ap:d≠R:=AR (Af:(mDN H L) d=some _) al;refine(77,2,(_,(oR s0 al).seq ac),E4 (K:=K) (a:=a) (xs:=aEF) (λi σ H1=>∃(v:bO)(f:aP),σ=[bP,mG a,mG L,mG R,v,none,none]/\ fS /\Alu H H1 L R aEJ (EI aBJ) f/\(∀c∈ aEJ,c.length<=i)/\(EI aBJ).length<=i/\f.length<=i+1)
  (58,[d],2,oR s0 al,(Af,by rw[Ah ao,Ah an,Af];rfl,2,5,9,by simpa using an,by simpa using ap.symm,ao,aj,s0.free al,by simpa using(am.free ak)),by simp[DK,Bs],by simp[EI,Bs],9)
  (λi σ l _ (_,_,_,s2,_)=>s2.seq ac) ?_ ?_)
 .intro j q c m u
  cases j with
  |zero=>
   simp at m;simp only[List.take_zero,List.map_nil,DK,Bs,List.getElem?_cons_zero,Option.some.injEq] at u;subst m;subst u;rw[Ah ap,Af];rfl
  |succ j=>simp at m
 .rintro i x σ H1 C ⟨v,f,rfl,aq,G,ar,as,au⟩;obtain⟨z,hz,rfl⟩:∃z,ss[i]? =mB z/\x= .str (mk z):=by
   rw[ArY] at C
   cases e:ss[i]? with
   |none=>rw[e] at C;cases C
   |some z=>rw[e] at C;exact(uA z C)
  have av:i<ss.length:=(nS hz).1;have aw:=ae z (Asl hz);have I:(sS ss.take).map BO=(ss.take i).map BO++[BO z]:=by rw[AsA,hz,Atp,As7];rfl
  have J:=Q5 aw;have M:tO DK aBJ f.length:=G.len.symm;refine(16,(K7 aw).1,by rw[BT];have:=K7 aw;omega,0,5);rw[Fo];by_cases ax:Dp z=true
  .rw[ax];refine eD;rw[ax,bE] at J;obtain⟨ay,N⟩:=AgX aBJ (HY z);refine(0,pL G.l,0,z,2,aw,L,8,G.l,fU,5);have az:∀q,H1 q=none->q≠L:=λq h e=>(by subst e;rw[G.l] at h;cases h);have RR:(mF2 L ((EI aBJ).map V.bl++[V.bl (HY z)])) R=some (mAL f.map):=(wL G.lr G.r);refine(0,pL RR,aR,λq hq=>(R,aHK,0,2,5,fU,5))
   .rw[nQ (λe=>by subst e;rw[RR] at hq;cases hq)];exact RR
   have a0:q≠R:=λe=>(mNq RR);have a1:q≠L:=λe=>(mNq Af);have a2:nA H1 q:=(by rw[Ah a1] at hq;exact hq);have a3:q∉f:=λhm=>by obtain⟨j,hj,a4⟩:=Asy hm;have:=G.at_ j q aEJ[j] (pW cW a4) fP;rw[this] at a2;cases a2
   have a5:nA H q:=aq.free a2;refine(_,f++[q],2,aLv,(51,51,5,G.lr,G.new.1,G.new.2.1,5),51)
   .rw[nZ G.new.2.1,nZ a5,nZ G.new.1];exact pQ aq
   .rw[Af,As7];rfl
   .rw[Ah G.lr,Ah a1.symm,Af,I,J,N,As7];rfl
   .rw[I,J,ay,Asi,Asi,G.len];rfl
   .intro j b c m u;rw[I,J,ay] at u;by_cases hj:j<f.length
    .rw[Ask hj] at m;rw[Ask aA] at u;have hb:b∈f:=Asl m;rw[Ah (λ(e:b=R)=>G.rp aHL),Ah (λ(e:b=q)=>a3 aHL),Ah (λ(e:b=L)=>G.lp aHL)];exact G.at_ j b c m u
    have a6:=(nS m).1;simp at a6;have a4:j=f.length:=aA;subst a4;rw[lL] at m;rw[eL] at u;simp only[Nat.sub_self,List.getElem?_cons_zero,Option.some.injEq,M] at m u;subst m;subst u;rw[Ah a0,Af];rfl
   .rw[AsT];exact(G.nd,9,λb hb c hc=>by simp at hc;subst hc;exact λe=>a3 aHL)
   .simp;exact(G.lp,a1.symm)
   .simp;exact(G.rp,a0.symm)
   .intro b hb;simp at hb;rcases hb with hb|rfl
    .exact nJ G.new.2.2
    exact a5
   .rw[I,J,ay];intro c hc;simp only[List.mem_append,List.mem_singleton] at hc;rcases hc with hc|rfl
    .exact mNr c hc
    simp
   .rw[I,J,N,Asi];show _+1<=_;omega
   simp;omega
  have a7:pV Dp z:=(mR ax);rw[a7];refine cD;rw[a7,kF] at J;obtain⟨_,a8⟩:=TR aw a7;obtain⟨ay,N⟩:=AgY aBJ aMs;obtain⟨a9,cl,O⟩:∃a9 cl,aEJ=a9++[cl]:=by
   rcases AsR aEJ with h|⟨q,b,h⟩
   .exact nL h (by unfold DK;simp)
   exact aTP
  obtain⟨ba,pl,U⟩:∃ba pl,f=ba++[pl]:=by
   rcases AsR f with h|⟨q,b,h⟩
   .rw[h,O] at M;simp at M
   exact aTP
  have bb:ba.length=a9.length:=by rw[O,U] at M;simp at M;exact M.symm
  have bc:sL H1 pl (cv cl):=G.at_ ba.length pl cl (pD U) (by rw[O,bb];simp);have bd:cl.length<=i:=ar cl (pD O);refine(16,R,aHK,_,nC pl,29,mN G.r,by rw[U,As7];exact U0 _ _,pL bc,0,pl,8,bc,fU,5);have be:pl∈f:=(pD U);have bf:R≠pl:=λe=>G.rp (e▸be);have bg:L≠pl:=λe=>G.lp (e▸be);refine(_,f,2,aLv,(51,5,G.nd,G.lp,G.rp,G.lr,G.new),51)
  .rw[nZ (G.new.2.2 pl be)];exact pQ aq
  .rw[Ah bf];exact G.r
  .rw[Ah bg,I,J,N];exact G.l
  .rw[I,J,ay,O,U];simp[bb]
  .intro j b c m u;rw[I,J,ay,O] at u;simp only[List.dropLast_concat,List.getLast?_append,List.getLast?_singleton,Option.some_or,Option.getD_some] at u;by_cases hj:j<ba.length
   .have bh:pC ba[j]? b:=(by rw[U,Ask hj] at m;exact m);rw[Ask aA] at u;have bi:b≠pl:=by
     intro e;subst e;have nd:=G.nd;rw[U,AsT] at nd;exact nd.2.2 b (Asl bh) b aC rfl
    rw[Ah bi];exact G.at_ j b c m (by rw[O,Ask aA];exact u)
   have a6:=(nS m).1;rw[U] at a6;simp only[List.length_append,List.length_cons,List.length_nil] at a6;have a4:j=ba.length:=aA;subst a4;rw[U,lL] at m;rw[eL] at u;simp only[Nat.sub_self,List.getElem?_cons_zero,Option.some.injEq,bb] at m u;subst m;subst u;rw[Af,show cv (cl++[aMs])=cv cl++[rX [aMs]] by simp,<-a8]
  .rw[I,J,ay,O];simp only[List.dropLast_concat,List.getLast?_append,List.getLast?_singleton,Option.some_or,Option.getD_some];intro c hc;simp only[List.mem_append,List.mem_singleton] at hc;rcases hc with hc|rfl
   .exact mNr c (by rw[O];simp[hc])
   simp;omega
  .rw[I,J,N];omega
  omega
 rintro σ H1 ⟨v,f,rfl,aq,G,ar,as,au⟩;have bj:(ss.take aEF.length).map BO=ss.map BO:=(pW ArX AsC);rw[bj] at G ar as;rw[ArX] at as au;have bk:=AgZ lA;obtain⟨bl,pt,Y⟩:∃bl pt,f=bl::pt:=by
  cases f with
  |nil=>have:=G.len;unfold DK at this;simp at this
  |cons x y=>exact aHM
 obtain⟨c1,ct,M⟩:∃c1 ct,DK lA=c1::ct:=aMt;have bm:pt.length=ct.length:=(by have:=G.len;rw[Y,M] at this;simpa using this);have bn:tO EI lA ct.length:=by
  have m:ct=(Bs lA).2.map (·.2):=by have:=M;unfold DK at this;injection this with _ q;exact q.symm
  rw[m];unfold EI;simp
 rw[M] at bk;simp at bk;refine(0,R,aHK,_,nC bl,29,mN G.r,mB5 (qF Y),bl,c1,2,mN (G.at_ 0 bl c1 (qF Y) (qF M)),97,mC aq hp,61,bB,5);have bo:∀q∈f,q≠p:=λq hq e=>(by subst e;rw[rD G.new.2.2] at hp;cases hp);generalize bp:nN H1 aTQ=l;have N:aTR:=λb hb=>(mBT bp hD);have bq:oB l p aTQ:=(zJ bp);have br:oB l L (.Ac (aHN.map V.bl)):=(by rw[mJh N L G.new.1];exact G.l);refine(40,R,0,mN (by rw[mJh N R G.new.2.1];exact G.r),λS bs=>?_);have bt:mJi f.map pt.map:=by unfold Dx;rw[show(mB (1:Int))=aTS from rfl,HT.Hz,HT.Ki,Y];simp only[List.map_cons,List.length_cons,List.length_map];rw[show min 1 (pt.length+1)=1 by omega,Auz,Atv,At6];exact AsW aC
 rw[bt];have s3:Ab l (nE l S aMu):=mP bs;generalize bu:nE l S aMu=bv at s3;have bw:sL bv S aMu:=(zJ bu);refine(L,S,3,nD s3 br,mN bw,λD bx=>?_);refine F6 ct.length bx (AL (by have:=G.len;rw[Y,M] at this;rw[Y] at au;simp at this au;omega)) (λj v _=>∃g c,aHN[j]? =mB g/\ct[j]? =bT /\v= mE ((if g then 3 else Ez c:Nat):Int)) iE
  (λi bz C s4=>(48,nD s4 (rY br),nD s4 bw,188,188))
  (λbz s4=>(mJj s4 (rY br) bw)) ?_ ?_ V5 F7
 .rintro i bz y b0 C s4 b1 ⟨b2,b3,b4,rfl,b5,rfl,b6,b7⟩ Kt b8;have b9:=xV b6 s4 (rY br);have ca:=xV b7 s4 bw;rw[ArY,fP] at b9 ca;simp at b9 ca;subst b9;subst ca;have s5:∀o,Ab bz (Aa bz b2 o):=λo=>mP b5;have cb:sL bz pt[i] (cv ct[i]):=by
   apply s4;apply s3;have hm:pt[i]∈f:=(by rw[Y];exact sE (Asw _));rw[N _ (bo _ hm)];exact G.at_ (i+1) pt[i] ct[i] (pD Y) (pD M)
  refine(mDO b2 Af xR);refine aAD
  cases hg:aHN[i] with
  |true=>
   refine eD;exact b8 _ _ (s5 _) (true,98)
  |false=>
   refine Az (0,pt[i],ct[i],2,mN (rW s5 cb),5);exact b8 _ _ (s5 _) (99,98)
 intro bz ys s4 hy cc cd;refine(97,nP s4 s3 bq,T.DQ.c,T.GZ,189);have ce:ys=iv (mLG aHN ct):=by
  apply AsJ;intro j;rw[ArY];by_cases hj:j<ct.length
  .obtain⟨v,ax⟩:∃v,ys[j]? =some v:=(_,fP);obtain⟨g,c,hg,hc,rfl⟩:=cd j v ax;rw[ax,List.getElem?_zipWith,hg,hc];rfl
  rw[lN,As9 (qT List.length_zipWith)];rfl
 have cf:D≠p:=λe=>(by subst e;rw[rY bq] at bx;cases bx);refine k _ aLm (D,51)
 .rw[hD];exact vJ (rY (by rw[nJ N];exact pQ aq))
 .cases cg:H D with
  |none=>rfl
  |some o=>
   have:=rY (by rw[N D cf];exact aq D o cg);rw[this] at bx;cases bx
 .rw[Af,bk];rfl
 rw[Ah cf,hy,ce,bk]
structure Wd where
 vf:Nat
 DF:BU
 CO:BU
deriving DecidableEq
def Hb(x:Vf.Txt):Wd:=(GP (Cg 0 x),mDP DU x,DU (mDP Kgz1.cut x))
abbrev Adj(vf:Nat)(q:Addr):List gG:=[("vowel_first",mE (vf:Int),),("shapes",mF q,)]
def Er(t:Aw)(H:Hp)(p:Addr)(wd:Wd):Prop:=∃dx q a b,H p=pI t.IC (Adj wd.vf q)/\H q=oI aAA /\wK a wd.DF/\wK b wd.CO
theorem Er.same(h:mF3 p)(s:aO):Er t H' p wd:=by obtain⟨dx,q,g,i,j,u,v,h4⟩:=h;exact(dx,q,g,i,nH j,nH u,v.same s,h4.same s)
def nw(H:Hp)(p:Addr)(H':Hp):Hp:=λb=>if H b=none\/b=p then eN else none
theorem Ps(h:pP b):nw H p H' b=H' b:=mK jY
theorem Alw:nw H p H' p=H' p:=mK dZ
theorem Adk:Ab aHO H':=λb o h=>by
 unfold nw at h;split at h
 .exact h
 cases h
def HH(D:Addr)(H:Hp):Hp:=λb=>if b=D then none else H b
theorem Alx:Ab (HH D H) H:=λb o h=>by
 unfold HH at h;split at h
 .cases h
 exact h
theorem VF(h:b≠D):HH D H b=H b:=gM
theorem Aly(a:H D≠none)(hp:p≠D):Ab aHO (HH D H'):=λb o h=>by
 have h':=Adk b o h;unfold nw at h;split at h
 .rename_i hc;have hb:b≠D:=by
   rcases hc with hc|hc
   .rintro rfl;exact a hc
   rintro rfl;exact hp hc.symm
  rw[VF hb];exact h'
 cases h
def Alz(K:PySem.W.Frag)(t:Aw):Sp:=λvs H Q _=>∃(p dx:Addr)(x:Str),vs=[aS,cX]/\H p=rM t.IC/\ mJk aV.all=true/\x.length<=1000/\
 ∀H',aTN ->Er t aHO p (Hb aV)-> cU
theorem Adl:AD (sM "text" "sounds") aL1 (A0 ZU):=aG
theorem Adm(T:aD):A4 P w K mg base A9 4 t.LC t.Abi aL1 (Alz K t):=by
 refine mDQ T.LC.F.ok Adl
 .obtain⟨p,dx,x,rfl,_⟩:=h;rfl
 obtain⟨p,dx,x,rfl,hp,hx,ab,k⟩:=h;refine(_,(Ak (pY Adl.nd (Bb (AkX T) eE rfl T.L7.m T.L7.F.kp T.L7.b .nil Ay dU))
  (Ak (oF (Ie (PW.pt (Gq (qR aW) (Jk (D9 (Bb (Sd T) eE rfl T.Fi.m T.Fi.F.kp T.Fi.b .nil Ay (mT gS)))))) Ar Ar))
  (Ao (oF (CV (Ad (mNs kH) (mT (mNs (mT (Bb (Ali T) eE rfl T.LA.m T.LA.F.kp T.LA.b .nil Ay kH)))))))))),5)
 have ac:=TL.Gv x;refine(0,x,2,ab,λa H1 ha s1 d=>?_);have f:=La 0 _ hx;have hlen:zK aCY.length:=(by have:=Q6 0 aV;omega);have ae:Hb aV=(GP aCY,DU (aCY.map BO),DU ((Hr aCY).map BO)):=by unfold Hb;rw[Aha f,(Mw 0 aV)]
 rw[ae] at k;generalize Cg 0 aV=ss at*;have g:=qS hp;have rest:∀(vf:Nat),vf=GP ss->∀l,l=nN H1 (mNt Int)->
  YF K (Bo 0) (QS (DY (mNu aMv) (DY (mNu (DY (QT (Adg K) [] E0 aMv) E5)) E5))) "shapes" {nx:=λ_ H'=>cU,rt:=Q} [bP,mB cX,mG a] l:=by
  intro vf af l m;have n:oB l p (mNt Int):=(pW m Af);have u:aTR:=λb hb=>(by rw[m,hD]);have v:sL l a aEF:=(by rw[mJh u a ha];exact d);refine(0,λx0 y B ag ah=>?_);have C:Ab l (Aa (qL l y x0) x0 (.Ag t.FR y [])):=oR (mP ag) (wL ah B);refine(x0,y,a,ss,190,nD C v,f,hlen,λai aj (D,ak,e3,al)=>fW);have s3:Ab l ai:=λb o e=>aj b o (pQ C) (AR e B);refine(77,ss,2,nD s3 v,f,hlen,λam G s4 an=>?_);intro I J L ao ap;have sB:Ab G (Aa (qL G J I) I (.Ag t.FR J [])):=oR (mP ao) (wL ap L);refine(I,J,am,Hr ss,190,sB.seq an,λs hs=>f s (Ahb hs),AsV (Ahc ss) hlen,λaq ar (M,as,au,av)=>fW);have s5:Ab G aq:=λb o e=>ar b o (pQ sB) (AR e L);refine(mDR 2);have N:=pR s3 s4 s5;have O:=Ab.Aa (o:= .Al [nC x0,nC I]) hq;refine(97,nP O N n,62,189);have fr:∀b,l b=none->H b=none:=λb hb=>by
   by_cases e:b=p
   .subst e;rw[n] at hb;cases hb
   rw[u b e] at hb;exact s1.free hb
  have h0:=fr x0 B;have U:=fr I (mDS s3 s4 L);have Y:=fr D (C.free ak);have aw:=fr M (Ab.free (pR s3 s4 sB) as);have np:mE0 p:=λb hb e=>(by subst e;rw[hb] at hp;cases hp);refine k _ aLm (dx,q,x0,I,by rw[Alw,Af,af];rfl,by rw[Ps (fr q (N.free hq)),Ah (λe=>by subst e;rw[mC N n] at hq;cases hq),Af],(y,D,by rw[Ps h0,mF4 h0];exact nP O s5 (vJ e3),by rw[Ps Y,mF4 Y];exact nP O s5 (vJ al)),(J,M,by rw[Ps U,mF4 U];exact mC O au,by rw[Ps aw,mF4 aw];exact mC O av));rw[hD];exact mC O (mC N (by rw[nJ u];exact pQ s1))
 refine(mF5 d)
 cases ss with
 |nil=>exact xS (97,g,80,bB,rest 0 rfl _ rfl)
 |cons z r=>
  have hz:=f z aC;refine Au (77,19,rX z,29,mN d,cN,0,(K7 hz).1,by rw[BT];have:=K7 hz;omega,0,5);rw[Fo]
  cases ax:Dp z with
  |true=>exact mNv Au 1
  |false=>exact mNv Az 0
end
end Vp
namespace Vp
open PySem PySem.Spec L2 Vf
section
variable {P:Program} {w:World} {K:PySem.W.Frag} {mg:aN} {base:Heap} {t:Aw}
open Classical in
noncomputable def only (N:aC1) (H:Hp):Hp:=λb=>if N b then H b else none
theorem VG(h:N b):only N H b=H b:=fZ
theorem Ju:Ab (only N H) H:=λb o h=>by
 unfold only at h;split at h
 .exact h
 cases h
theorem Sg(h:only N H b=aH):N b:=by
 unfold only at h;split at h
 .assumption
 cases h
theorem VH(a:∀b,N b->c b)(e:∀b o,N b->H b=aH -> eN=aH):Ab (only N H) (only c H'):=λb o h=>by have hb:=Sg h;rw[VG (nJ a)];exact e b o hb (Ju b o h)
theorem Al0(h:∀b,H b=none->N b)(hp:N p):Ab aHO (only N H'):=λb o q=>by
 have a:=Adk b o q;unfold nw at q;split at q
 .rename_i hc;rw[VG (hc.elim (h b) λe=>e▸hp)];exact a
 cases q
def K8:Vf.Txt:=[97,98,99,100,101,102,103,104,105,106,107,108,109,110,111,112,113,114,115,116,117,118,119,120,121,122,65,69,73,79,85,89,32]
theorem Al1:sJ (mI8 mAy++mAy " ")=K8:=by decide+kernel
def Md(ns:bG):V:=if 1<=ns.length/\ns.length<=255 then K6 K8 ns else .Ax
def Al2(K:PySem.W.Frag):Sp:=λvs H Q _=>∃(a:Addr)(ns:bG),vs=cP /\ iC /\∀H',aO ->oJ (Md ns)
theorem Al3:AD aBC aBC (A0 ZV):=aG
theorem VI(T:aD):A4 P w K mg base A9 2 t.Gy t.Abj aBC (Al2 K):=by
 refine vL T.Gy.F.ok Al3
 .obtain⟨a,ns,rfl,_⟩:=h;rfl
 obtain⟨a,ns,rfl,d,k⟩:=h;obtain⟨e,f,g⟩:=T.V0;obtain⟨i,j,l⟩:=T.AcC;obtain⟨m,n,o⟩:=T.AcD;refine(_,(Ak (zE (mJl aAE (nT f g)))
  (Ao (A3 (Bb (VC T) eE rfl T.Gx.m T.Gx.F.kp T.Gx.b .nil Ay (Ad aL (mT (AE Ah_ (nT j l) (nT n o)))))))),5)
 refine(mAK a d);unfold Md at k;rw[ArX];by_cases p:1<=ns.length
 .rw[mAM (ns.length:Nat)];refine aEK;by_cases r:ns.length<=255
  .rw[mU (by omega:((ns.length:Nat):Int)<=255)];rw[mK (p,r)] at k;refine Az (0,8,12,a,ns,0,d,4,12,λH' u=>?_);rw[Al1];exact k H' u
  rw[mS (by omega:¬((ns.length:Nat):Int)<=255)];rw[vA r q.2] at k;exact mB6 H
 rw[mAN (ns.length:Nat)];rw[vA p q.1] at k;exact Az (0,mB6 H)
def Al4(K:PySem.W.Frag):Sp:=λvs H Q _=>∃(a:Addr)(xs:aK),vs=cP /\ gQ /\rG (decide (1<=xs.length/\xs.length<=64))
theorem Al5:AD aHc aHc (A0 ZW):=aG
theorem Adn(T:aD):A4 P w K mg base A9 1 t.Ip t.Abm aHc (Al4 K):=by
 refine vL T.Ip.F.ok Al5
 .obtain⟨a,xs,rfl,_⟩:=h;rfl
 obtain⟨a,xs,rfl,d,k⟩:=h;obtain⟨e,f,g⟩:=T.AcH;refine(_,(vM (Ul DB DB Ar aAE (nT f g))),77,0,mH d,55);by_cases i:1<=xs.length
 .rw[mAM (xs.length:Nat)];refine Au aHP;show uO V.bl (decide (((xs.length:Nat):Int)<=64));rw[show decide (((xs.length:Nat):Int)<=64)=decide (1<=xs.length/\xs.length<=64) from aDV];exact k
 rw[mAN (xs.length:Nat)];refine cD;rw[mS (λq=>i q.1)] at k;exact k
def CP:dV -> gA
 |[]=>[]
 |[a]=>[a.DF]
 |a::b::r=>(if b.vf=1 then a.CO else a.DF)::CP aBs
theorem VJ:∀ws:dD,(∀x∈ws,jI=true)->CP (ws.map Hb)=HV ws
 |[],_=>rfl
 |[a],_=>rfl
 |a::b::r,h=>by
  have c:=VJ aBs λx hx=>gN;have d:=(Yc (La 0 b (h b aC))).1;rw[Mw] at d;simp only[List.map_cons,CP,Kgz1.left] at c⊢;rw[c];congr 1;show(if GP (Cg 0 b)=1 then DU (mDP Kgz1.cut a) else mDP DU a)=_;simp only[d];split<;>rfl
theorem Ado:∀(BQ:dV)(j:Nat)(wd:Wd),BQ[j]? =mB wd->(CP BQ)[j]? =mB (if aEL.getD j 0=1 then wd.CO else wd.DF)
 |[],j,wd,h=>by simp at h
 |[a],0,wd,h=>by simp at h;subst h;simp[CP]
 |[a],j+1,wd,h=>by simp at h
 |a::b::r,0,wd,h=>by simp at h;subst h;simp[CP]
 |a::b::r,j+1,wd,h=>by
  simp only[CP,List.getElem?_cons_succ,(Ado aBs j wd fE)];simp
theorem Adp:∀BQ:dV,(CP BQ).length=BQ.length
 |[]=>rfl
 |[a]=>rfl
 |a::b::r=>by simp only[CP,List.length_cons,Adp aBs]
theorem Sh(c:Nat):∀(l acc:Vf.Txt),TL.DC [c] 0 acc l=Kgz1.parts c l acc
 |[],acc=>rfl
 |d::r,acc=>by
  unfold TL.DC Kgz1.parts;have hp:TL.pre [c] kU=(d==c):=by unfold TL.pre;simp
  rw[hp];by_cases e:d=c
  .subst e;simp;congr 1;exact Sh d r []
  have:pG (d==c):=hS;rw[this,bN];simp;exact Sh c r (acc++[d])
theorem NJ(x y:Str)(c:Nat)(hy:sJ y=[c])(hc:c<256):Txt.split x y=(uB c aV).map mk:=by
 apply TL.Z5;have hk:aTa=true:=by have:y=mk [c]:=Pp hy;subst this;simp[hc]
 rw[TL.AjE x y (pD hy) (TL.AjF hk),hy,Sh,AsB]
 conv=>lhs;rw[<-mJm (uB c aV)]
 rfl
theorem Me(c:Nat):∀(b w:Vf.Txt),aMw.length<=b.length+1/\∀p∈ aMw,p.length<=b.length+w.length
 |[],w=>by simp[Kgz1.parts]
 |d::r,w=>by
  unfold Kgz1.parts;split
  .have:=Me c r [];grind
  have:=Me c r aDO;grind
theorem Al6:tX " "=[32]:=by decide+kernel
def Al7(t:Aw)(H:Hp)(a:aP)(b:gA):Prop:=a.length=b.length/\∀(j:Nat)(p:Addr)(sh:BU),a[j]? =gH ->b[j]? =mB sh->wK p sh
def Al8(K:PySem.W.Frag)(t:Aw):Sp:=λvs H Q _=>∃(x:Str),vs=[cX]/\mJn aV=true/\x.length<=1000/\
 ∀D H',aO ->H D=none->(∃a,dQ=aC2 /\Al7 t (only (λb=>H b=none/\b≠D) H') a (HV aHQ))-> eS
theorem Si:∀zs:aK,(∀v∈zs,∃p:Addr,v= aS)->∃a:aP,zs=nF a.map
 |[],_=>([],2)
 |v::r,h=>by
  obtain⟨p,rfl⟩:=h v aC;obtain⟨a,e⟩:=Si r λx hx=>gN;exact(p::a,by rw[e];rfl)
theorem Al9(f:α->Bool)(l:cL)(i:Nat)(x:α)(h:l[i]? =aY):(sS l.take).filter f=(zC i).filter f++(if f x then[x] else[]):=by rw[AsA,h,Atp,Ath];grind
abbrev VL:List Str:=aTT
theorem Jv:AD aTT lK (A0 OZ):=aG
theorem AlA(T:aD):A4 P w K mg base A9 6 t.LD t.Abk lK (Al8 K t):=by
 refine oW T.LD.F.ok Jv
 .obtain⟨x,rfl,_⟩:=h;rfl
 obtain⟨x,rfl,Av,ac,k⟩:=h;obtain⟨ae,af,ag⟩:=T.AcD;refine(_,(Ak (HD (i:=1) rfl Jv.nd rfl rfl jH (qC (MO aL aHR)) (qD ("part",2,) VL OZ) (pE 2 Jv.nd) (mJo (qR aW)) (mDM (Dc T.Fm.k (Adm T) bR rfl T.Fm.m T.LC.b .nil Ay kH)))
  (Ak (rL Jv.nd (vN (Dk rfl Jv.nd (qC (mF6 IG aQ)) (qD ("word",4,) VL OZ) (pE 4 Jv.nd) cI (pZ hM)) aHS))
  (Ao (A3 (Dk rfl Jv.nd (mDT (pS 1 3)) (BZ (own:=[("word",4,),("follower",5,)]) (xP VL OZ)) (pZ (tF 4 Jv.nd 5)) cI (pZ (sN hM bQ))))))),5)
 have ah:=TL.Gv x;have ai:=Me 32 aV [];have aj:=Ag_ Av;refine(0,bY,8,12,eC,aMx);rw[NJ x _ 32 Al6 bB];rw[TM] at k aj;generalize Kgz1.parts 32 aV []=parts at*;have ak:parts.length<=1001:=aA;rw[show(parts.map mk).map V.str=sv parts by rw[AsB];rfl];generalize al:nE H a (sv parts)=am;have an:Ab H am:=(vF al mP ha);have ao:sL am a (sv parts):=(zJ al);refine(a,2,(oM ao),λD ap=>?_);have aq:=an.free ap;refine EA (J:=aAq) parts.length (λi H1=>Ab am H1/\∃c:aP,H1 D=pF c.map/\c.length=(mNw i).length/\∀(j:Nat)(p:Addr)(y:Vf.Txt),c[j]? =gH ->((parts.take i).filter λp=> !p.isEmpty)[j]? =mB y->Er t (only (λb=>H b=none/\b≠D) H1) p (Hb y))
  (mP ap,[],88,λj p y h=>by simp at h) (λi H1 d (s1,_)=>(sO s1 ao d)) (λH1 (s1,_)=>(_,nD s1 ao,9)) ?_ ?_
 .rintro i H1 y g d ⟨s1,c,l,m,u⟩ ⟨rfl,hy⟩;have z:=qW s1 ao;rw[ArY,mJ d] at z;simp at z;subst z;have ar:=ai.2 parts[i] (Asw d);simp only[List.length_nil,Nat.add_zero] at ar;have as:=Al9 (λp:Vf.Txt=> !p.isEmpty) parts i parts[i] (mJ d);have au:mBq mNw i 1001:=AsV (Aun ..) (qT AsS);refine(30,_,(fT,2),5);rw[BT];by_cases C:parts[i]=[]
  .have av:pG aTU:=(qF C);rw[av];refine Az (s1,c,l,5,5)
   .rw[as,C];simpa using m
   rw[as,C];simpa using u
  have av:oO aTU:=by have:parts[i].length≠0:=λq=>C (tY q);simp only[bne_iff_ne,ne_eq];omega
  have aw:oO (!parts[i].isEmpty):=(mR C);rw[av];refine Au (0,λp dx hp ax ay=>?_);have az:Ab g (mJp g t.IC):=mAO ax ay;refine(p,dx,mk parts[i],190,aj parts[i] (AtO.mpr (Asw d,aw)),by rw[BT];omega,λG a0 a1=>fW);have s3:Ab g G:=λb o e=>a0 b o (pQ az) (AR e hp);have a2:Ab H g:=mX an s1;refine(nF c.map,rY l,BA (mBH m),vO s1 s3 ap,c++[p],51)
  .rw[Af,As7];rfl
  .rw[as,aw,bE,Asi,Asi,m];rfl
  intro j q y I L;rw[as,aw,bE] at L;by_cases hj:j<c.length
  .rw[Ask hj] at I;rw[Ask (uJ m hj)] at L;refine(u j q y I L).same aTV;rw[Ah hb.2];exact pQ s3
  have a3:=(nS I).1;simp at a3;have a4:j=c.length:=aA;subst a4;rw[lL] at I;rw[Aso (Avy m.symm),<-m] at L;simp at I L;subst I;subst L;refine(a1.same (Al0 (N:=λb=>H b=none/\b≠D) (mAu (mDS a2 az hb,λe=>?_)) (a2.free hp,(λe=>by subst e;rw[l] at hp;cases hp)))).same aTV
  .subst e;rw[mC az l] at hb;cases hb
  rw[Ah hb.2];exact e
 rintro H1 ⟨s1,c,l,m,u⟩;rw[AsC] at m u;have au:aMy.length<=1001:=AsV (Aun ..) ak;have a5:=VJ aMy aj;rw[<-a5] at k;generalize a6:aMy.map Hb=BQ at*;have a7:c.length=BQ.length:=(by rw[<-a6,ArX];exact m);have a8:∀(j:Nat)(p:Addr)(wd:Wd),c[j]? =gH ->BQ[j]? =mB wd->Er t (only (λb=>H b=none/\b≠D) H1) p wd:=by
  intro j p wd I L;rw[<-a6,ArY] at L
  cases e:(parts.filter λp=> !p.isEmpty)[j]? with
  |none=>rw[e] at L;cases L
  |some y=>
   rw[e] at L;injection L with L
   subst L;exact u j p y I e
 have a9:BQ.length<=1001:=(by rw[<-a7,m];exact au);have ba:Ab H H1:=mX an s1;have bb:∀wd∈BQ,wd.vf<=1:=by
  intro wd hw;rw[<-a6] at hw;obtain⟨y,_,rfl⟩:=pA hw;show GP _<=1;unfold GP;split
  .omega
  split<;>omega
 clear u aj a6 a5 m;refine(16,D,0,mN l,λS bc=>?_);have bd:mJi c.map c.tail.map:=by
  unfold Dx;rw[show(mB (1:Int))=aTS from rfl,HT.Hz,HT.Ki]
  cases c with
  |nil=>rfl
  |cons a r=>
   simp only[List.map_cons,List.length_cons,List.length_map,List.tail_cons];rw[show min 1 (r.length+1)=1 by omega,Auz,Atv,At6];exact AsW aC
 rw[bd];have s2:Ab H1 (nE H1 S aMz):=mP bc;generalize be:nE H1 S aMz=g at s2;have bf:sL g S aMz:=(zJ be);refine(S,2,(oM bf),λbg bh=>?_);refine F6 (J:=qJ S) BQ.tail.length bh (AL (qT AtI)) (λj v _=>∃wd,BQ.tail[j]? =mB wd/\v= aHT) iE
  (λi G d s3=>(sO s3 bf aTW)) (λG s3=>(_,nD s3 bf,by rw[ArX,AtI,AtI];omega)) ?_ ?_ G_ F7
 .rintro i G y bi d s3 bj ⟨rfl,hy⟩ Kt bk;have z:=qW s3 bf;have bl:i<c.tail.length:=aTW;rw[ArY,mJ bl] at z;simp only[Option.map_some,Option.some.injEq] at z;subst z;obtain⟨dx,q,bm,bn,bo,bp,bq,br⟩:=(a8 (i+1) c.tail[i] BQ.tail[i] (by rw[List.getElem_tail];rw[AtI] at bl;exact fP) (by rw[List.getElem_tail];rw[AtI] at d;exact fP)).same (pR Ju s2 s3);refine(zL (0,19,dx,3,bo,80,2,5));exact mJq bk d
 intro G ys s3 hy bs bt;have bu:ys=iv aBK:=by
  apply AsJ;intro j;rw[ArY,ArY]
  cases e:ys[j]? with
  |none=>
   have:=iV;rw[lN];rfl
  |some v=>
   obtain⟨wd,I,L⟩:=wI bt;rw[I,L];rfl
 refine(90,fM);have s4:=vP gI hb;refine(bg,b,ys,0,2,vJ hy,Af,AL (by simp only[List.length_cons,List.length_nil,bs,List.length_tail];omega),aMA);have s5:=vP (ys++gI) hf;generalize bv:Aa (nE G b gI) f (.Ac (ys++gI))=bw at s5;have bx:zM bw f aEL:=(mNx bv bu);have M:=pR s2 s3 (mX s4 s5);have bz:=mC M l;refine(16,D,f,3,mN bz,mN bx,λb0 b1=>?_);have b2:=mDS ba M b1;have b3:BQ.length<= aEL.length:=dM;refine F6 (J:=Lw K D f) BQ.length b1 eC (λj v H'=>∃p sh,(CP BQ)[j]? =mB sh/\v= aS /\DE t (only (λb=>H b=none/\b≠b0) H') p sh) (λj v O b4 (p,sh,I,L,b5) e=>(p,sh,I,L,b5.same (VH (mAu hb) λb o hb q=>e b o hb.2 q)))
  (λi O d U=>(mNy U bz bx))
  (λO U=>(mJj U bz bx)) ?_ ?_ V5 F7
 .rintro i O y b4 d U bj ⟨b6,b7,b8,rfl,b9,rfl,ca,cb⟩ Kt bk;have cc:=xV ca U bz;have cd:=xV cb U bx;have ce:i<c.length:=aA;have cf:i<aEL.length:=aA;rw[ArY,mJ ce] at cc;rw[ArY,mJ cf] at cd;simp only[Option.map_some,Option.some.injEq] at cc cd;subst cc;subst cd;have cg:∀o,Ab O (Aa O b6 o):=λo=>mP b9;have ch:Er t (only (λb=>H b=none/\b≠b0) (Aa O b6 (.Al [nC c[i],mQ ((aBK++[0])[i]:Nat)]))) c[i] BQ[i]:=by
   refine(a8 i c[i] BQ[i] (mJ ce) (mJ d)).same λb o e=>?_;have hb:=Sg e;have Y:=pQ Ju;rw[VG (hb.1,(λq=>by subst q;rw[mC M Y] at b1;cases b1))];exact rW cg (nP U M Y)
  obtain⟨dx,q,bm,bn,bo,bp,bq,br⟩:=ch;have cj:=Ado BQ i BQ[i] (mJ d);have ck:aEL.getD i 0=(aBK++[0])[i]:=(vB Asv cf);rw[ck] at cj;have cl:(aBK++[0])[i]<=1:=by
   rcases oS (Asw cf) with h|h
   .obtain⟨wd,hw,e⟩:=pA h;rw[<-e];exact bb wd (mNz hw)
   simp only[List.mem_singleton] at h;omega
  refine(mDO b6 Af xR);by_cases cm:(aBK++[0])[i]=1
  .refine(101,nC bn,29,qX Ju bp,AZ (qF cm),5);rw[mK cm] at cj;exact mNA bn br
  have cn:(aBK++[0])[i]=0:=aA;refine(101,nC bm,29,qX Ju bp,AZ (qF cn),5);rw[mM cm] at cj;exact mNA bm bq
 intro O zs U hz co cp;obtain⟨cq,cr⟩:∃cq:aP,zs=cq.map V.ref:=Si zs λv cs=>by obtain⟨j,hj,e⟩:=Asy cs;obtain⟨p,sh,_,L,_⟩:=cp j v aBL;exact(p,L)
 refine k b0 O (pR ba M U) b2 (cq,by rw[hz,cr],5,λj p sh I L=>?_)
 .rw[Adp,<-co,cr,ArX]
 obtain⟨ct,cu,Y,cx,e3⟩:=cp j aS (mF7 cr I);rw[L] at Y
 cases Y;cases cx
 exact e3
end
end Vp
namespace Vp
open PySem PySem.Spec L2 Vf
section
variable {P:Program} {w:World} {K:PySem.W.Frag} {mg:aN} {base:Heap} {t:Aw}
theorem Pt(T:aD):A8 K H t.FT aTo:= mI T.Akg
theorem Pu{n:Nat}(h:n<=3):BX [iG,iG,mQ 2,mQ 1] (n:Int)=some (mE (BB n:Nat)):=by apply AZ;have:n=0\/n=1\/n=2\/n=3:=aA;rcases this with rfl|rfl|rfl|rfl<;>rfl
theorem Adq(cs:aB):Ez cs<=3:=by unfold Ez;grind
theorem VM(s:aC3):(DU s).Bk<=3/\∀x∈(DU s).A2,x<=3:=by
 refine(Adq _,dY);obtain⟨y,_,rfl⟩:=aAc;split
 .omega
 exact Adq _
theorem AlB(ws:dD):∀sh∈HV ws,sh.Bk<=3/\∀x∈sh.A2,x<=3:=by intro sh h;obtain⟨y,_,rfl⟩:=pA h;exact VM y
theorem Jw(ha:a<=3)(hb:b<=3):BE a b<=3:=by
 unfold BE;split
 .exact ha
 split<;>omega
theorem Sj(l:aB)(a b:Nat):Gf (l++[a]) b=l++[BE a b]:=by unfold Gf;simp
theorem ArS(b:Nat):Gf [] b=[]:=rfl
theorem VN:∀s:aC3,(cR).2.length<=s.length
 |[]=>by simp[Bs]
 | .cons c::r=>by have:=VN r;simp only[Bs,List.length_cons];omega
 | .vowel g::r=>by have:=VN r;simp only[Bs,List.length_cons];omega
def Sk(n:Nat)(st:aDL):Prop:=st.1.length=st.2.length/\st.1.length<=n/\(∀x∈st.1,x<=3)/\∀x∈st.2,x=0\/x=4
theorem Pw(l:aB)(b:Nat):(Gf l b).length=l.length:=by
 rcases AsR l with rfl|⟨r,a,rfl⟩
 .rfl
 rw[Atk,Sj];simp
theorem Ads(h:mEP 3)(hb:b<=3):∀x∈Gf l b,x<=3:=by
 rcases AsR l with rfl|⟨r,a,rfl⟩
 .exact h
 rw[Atk] at h⊢;rw[Sj];intro x hx;rcases oS hx with hx|hx
 .exact h x aMB
 simp at hx;subst hx;exact Jw hR hb
theorem Adt(h:1<=n):(Gg n).length=n:=by unfold Gg;simp;omega
theorem AlC(h:Sk n st)(a:sh.Bk<=3)(hw:∀x∈sh.A2,x<=3):Sk (n+sh.A2.length) (CZ st sh):=by
 obtain⟨b,c,d,h4⟩:=h;unfold CZ;split
 .exact(by rw[Pw];exact b,by rw[Pw];omega,Ads d a,h4)
 rename_i e;have hp:aMC:=by grind
 refine(by simp only[List.length_append,Pw,Adt hp];omega,by simp only[List.length_append,Pw];omega,dY,dY)
 .rcases oS hx with hx|hx
  .exact Ads d a x hx
  exact oY hw
 rcases oS hx with hx|hx
 .exact oY h4
 unfold Gg at hx;grind
def D_(a:gA):Nat:=AM (a.map λs=>s.A2.length)
theorem VO:∀(a:gA)(n:Nat)(st:aDL),Sk n st->(∀sh∈a,sh.Bk<=3/\∀x∈sh.A2,x<=3)->Sk (n+D_ a) (a.foldl CZ st)
 |[],n,st,h,_=>by simpa[D_,AM] using h
 |s::r,n,st,h,hs=>by
  have:=VO r _ _ (AlC h (hs s aC).1 (hs s aC).2) λx hx=>pH hs x hx;rw[Ati];unfold D_ at this⊢;rw[Asn,C7,<-Nat.add_assoc];exact this
theorem Adu(b:gA)(i:Nat):D_ (b.take i)<=D_ b:=by
 unfold D_
 induction b generalizing i with
 |nil=>simp
 |cons a r c=>
  cases i with
  |zero=>simp[AM]
  |succ i=>
   rw[Auf,Asn,Asn,C7,C7];have:=c i;omega
theorem Adv:∀L:oA mY Kgz1.Sound,yI (Kgz1.left L).map<=yI L.map
 |[]=>aF
 |[a]=>aF
 |a::b::r=>by
  have c:=Adv aBs;have hc:∀s:aC3,aMD.length<=s.length:=by intro s;have d:s.reverse.length=s.length:=AvC;unfold Kgz1.cut;grind
  simp only[Kgz1.left,List.map_cons,C7] at c⊢;have:=hc a;split<;>omega
theorem Adw(p:Nat)(x:Vf.Txt):(Kgz1.sounds p x).length<=x.length:=by rw[<-Mw,ArX];exact Q6 p x
theorem AlD(l:Vf.Txt):yI (mAP l).map<=l.length:=by
 rw[TM];have b:=My 32 l [];simp at b;refine AsV ?_ b;generalize Kgz1.parts 32 l []=c
 induction c with
 |nil=>exact aF
 |cons a r d=>
  rw[AuJ];split
  .rw[Asn,Asn,C7,C7];omega
  rw[Asn,C7];omega
theorem AlE(l:Vf.Txt):D_ (HV (mAP l))<=l.length:=by
 unfold D_ HV;rw[AsB];have a:AM (aTX.map ((λs:BU=>s.A2.length)∘DU))<=AM (mAc aTX.map):=by apply Qt;intro s _;show((cR).2.map _).length<=_;rw[ArX];exact VN s
 have b:=Adv aME;have c:yI aME.map<=AM (mAc (mAP l).map):=by rw[AsB];apply Qt;intro x _;exact Adw 0 x
 have h4:=AlD l;omega
def AlF(K:PySem.W.Frag):Sp:=λvs H Q _=>∃(x:Str),vs=[cX]/\mJn aV=true/\x.length<=1000/\
 ∀D H',aO ->H D=none-> dQ=nW (Ck aV)-> eS
theorem Adx(h:1<=n):FK n (-1)=some (n - 1):=by unfold FK;grind
theorem AlG(l:aK)(a b:V):(l++[a]).set ((l++[a]).length - 1) b=l++[b]:=by simp
theorem AlH(n:Nat):(oX n gI).flatten=List.replicate n iG:=by
 induction n with
 |zero=>rfl
 |succ n a=>rw[AtC,Aub,a];rfl
abbrev Ady:List Str:=aTY
theorem IH:AD aTY lK (A0 Rz):=aG
theorem Sl(T:aD):A4 P w K mg base A9 7 t.Fk t.Abl lK (AlF K):=by
 refine oW T.Fk.F.ok IH
 .obtain⟨x,rfl,_⟩:=h;rfl
 obtain⟨x,rfl,Av,ac,k⟩:=h;obtain⟨ae,af,ag⟩:=T.V1;obtain⟨ah,ai,aj⟩:=T.AcF;refine(_,(Ak (tE IH.nd eU)
  (Ak (pY IH.nd eU)
  (Ak (BS Asq rfl (qC (Bb (AlA T) bR rfl T.LD.m T.LD.F.kp T.LD.b .nil Ay aBM)) (oC 3 IH.nd) (Ak (nG (qR aQ) (Ao (AhD (mNB (uC (qQ aQ fB) dE)) (AhC aQ fB OM))))
  (Ao (AU (qR dE) (Ak (Cu (Dz (K:=K) rfl As3 Au2 AuZ Rh aQ (mT dE)))
  (Ao (Cu (mNC (mT (vN (mDU (zN (uD qK 3))) (tZ aHR))))))) AY))))
  (Ak (nG (Ff (qR aQ)) (oL eU))
  (Ak (qE IH.nd (vN (Dk rfl IH.nd (qC (mDV aQ fB)) (qD ("weight",5,) Ady Rz) (pE 5 IH.nd) cI (pZ (mJr bQ))) (tZ aMF)))
  (Ao (A3 (Dk rfl IH.nd (mDT (pS 4 2)) (BZ (own:=[("length",6,),("end",7,)]) (xP Ady Rz)) (pZ (tF 6 IH.nd 7)) cI (pZ (AE DA cC gJ)))))))))),5)
 have ak:x.length=aV.length:=TL.Gv x;refine(aR,λc al=>(aR,λd am=>?_));have an:Ab H (qM H c):=mP al;have ao:Ab (qM H c) (mDN H c):=mP am;have ap:c≠d:=AR (Af:(qM H c) c=_) am;refine(0,x,2,Av,ac,λD H1 s1 aq (m,ar,as)=>?_);have au:=AlB aHQ;have av:=AlE aV;have aw:Ck aV=Jb ((HV aHQ).foldl CZ ([],[],)):=rfl;rw[aw] at k;generalize HV aHQ=u at*;have ax:nA H D:=mDS an ao aq;have ay:m.length=u.length:=as.1;have az:∀(j:Nat)(p:Addr)(sh:BU),m[j]? =gH ->u[j]? =mB sh->∃dx q,(p≠c/\p≠d/\q≠c/\q≠d)/\H1 p=mJf sh.Bk/\H1 q=some (pT sh.A2):=by intro j p sh a0 C;obtain⟨dx,q,a1,a2⟩:=as.2 j p sh a0 C;have n1:=(Sg a1).1;have n2:=(Sg a2).1;have a3:∀b,(mDN H c) b=none->b≠c/\b≠d:=λb hb=>(λe=>(by subst e;rw[mC ao (Af:(qM H b) b=_)] at hb;cases hb),λe=>(by subst e;rw[Af] at hb;cases hb));exact(dx,q,((a3 p n1).1,(a3 p n1).2,(a3 q n2).1,(a3 q n2).2),mC Ju a1,mC Ju a2)
 refine(D,2,(oM ar),E4 (K:=K) (a:=D) (xs:=nF m.map) (λi σ G=>∃v,σ=(mND c)/\(mJs G)/\G c=nW (mJt i).1/\G d=nW (mJt i).2)
  (58,2,λb o _ _ h=>h,nP s1 ao Af,qS Af) (λi σ G _ (_,_,C,_)=>Ae.of (C _ _ (λe=>by subst e;rw[mC ao (Af:(aHU) D=_)] at aq;cases aq) (λe=>by subst e;rw[Af] at aq;cases aq) ar)) ?_ ?_)
 .rintro i y σ G I ⟨v,rfl,C,L,a4⟩;rw[ArY] at I;obtain⟨p,hp,rfl⟩:∃p,m[i]? =gH /\y= .ref p:=by
   cases e:m[i]? with
   |none=>rw[e] at I;cases I
   |some p=>rw[e] at I;exact(uA p I)
  have a5:i<u.length:=(wM ay hp);obtain⟨dx,q,⟨n1,n2,n3,n4⟩,a1,a2⟩:=az i p u[i] hp (mJ a5);have hle:=VO aMG 0 ([],[],) aTZ λsh h=>au sh (Av2 h);have a6:=Adu u i;have a7:aMH.foldl CZ ([],[],)=CZ (mJt i) u[i]:=by rw[AsA,mJ a5,Atp,At4];rfl
  have a8:D_ aMH <=D_ u:=Adu u (i+1);have a9:u[i].A2.length<=D_ u:=by
   have:D_ aMH=D_ aMG+u[i].A2.length:=by unfold D_;rw[AsA,mJ a5,Atp,As7];unfold AM;rw[At4];rfl
   omega
  rw[a7];generalize aMG.foldl CZ ([],[],)=st at*;obtain⟨ba,bb,bc,bd⟩:=hle;generalize u[i]=sh at*;have be:=C _ _ n3 n4 a2;have second:∀M(ws:aB),ws=aFN ->(mJs M)->M c=nW ws->M d=nW st.2->
   Ii (V7 K (mDW 3))
    (EL (OC (Rc K "list" U6 (Bo 1) (xW mDW 3)))
     (OC (Rc K "list" U6 (Bo 2) (DY (CU Za (CU Zb (Us (xW tC cB)) (CU aKN (Ut (mIE K) (xW mDW 3)) aAF)) (Us (xW tC aCT))) E5)))) Ih
    {nx:=λσ G=>∃v,σ=(mND c)/\(mJs G)/\G c=nW (CZ st sh).1/\G d=nW (CZ st sh).2,rt:=Q}
    [mB cX,mG c,mG d,bP,none,none,none,none] M:=by
   intro M ws bf bg bh bi;have bj:=bg _ _ n1 n2 a1;have bk:=bg _ _ n3 n4 a2;have bl:ws.length=st.1.length:=(pW bf Pw);refine(17,bj,26,_,mDX bk,5);by_cases N:sh.A2=[]
   .have O:pG aT0:=(qF N);rw[O];refine Az (0,bg,5,5)
    .unfold CZ;rw[mK N,bh,bf]
    unfold CZ;rw[mK N];exact bi
   have O:oO aT0:=(mR N);have bm:aMC:=by have:sh.A2.length≠0:=λq=>N (tY q);omega
   rw[O];refine Au (0,pL bh,17,bj,26,c,q,8,bh,bk,AL (by simp only[List.length_map];omega),5);generalize bn:nE M c (iv ws++aEM)=U;have bo:zM U c (ws++sh.A2):=(by rw[<-bn,Af];simp only[iv,List.map_append]);have h4:∀b,b≠c->U b=M b:=λb hb=>(mBT bn hD);have bp:zM U d st.2:=(mJu d ap.symm bi);refine(0,pL bp,90,aAa);have s5:=vP gI hz;refine(17,vQ (mJu p n1 bj),26,q,0,wN s5 (mJu q n3 bk),8,5);have bq:mDY ((aEM.length:Nat):Int) sh.A2.length:=kI;refine(z,8,Af,by show -(2 ^ 63:Int)<=_;rw[bq];omega,by show _<(2 ^ 63:Int);rw[bq];omega,by show 1*_<=_;rw[bq,AtN];exact eC,λr ab=>?_);have br:aT1.flatten=iv aHV:=by rw[bq,AtN,AlH];simp only[iv,List.map_replicate];rfl
   generalize bs:Aa (nE U z gI) r (.Ac aT1.flatten)=bt;have bu:Ab (nE U z gI) bt:=(vF bs mP ab);refine(90,aMA);have Y:=vP [mQ 4] hf;refine(r,f,8,qY (by rw[<-bs,Af,br]),Af,AL (by simp only[List.length_map,List.length_replicate,List.length_cons,List.length_nil];omega),aKX);generalize bv:Aa (nE bt f [mQ 4]) g (.Ac (iv aHV++[mQ 4]))=bw;have bx:zM bw g aCf:=(by rw[<-bv,Af];simp only[iv,Gg,List.map_append];rfl);have bz:Ab U bw:=mX s5 (pR bu Y (vF bv mP hg));refine(d,g,8,mC bz bp,bx,AL (by simp only[List.length_map,Adt bm];omega),0,λb o b0 b1 e=>?_,5,5)
   .rw[Ah b1];exact mC bz (by rw[h4 b b0];exact bg b o b0 b1 e)
   .rw[Ah ap,mC bz bo];unfold CZ;rw[mM N,bf]
   rw[Af];unfold CZ;rw[mM N];simp only[iv,List.map_append]
  refine(mF5 L);rcases AsR st.1 with b2|⟨r,a,b3⟩
  .have O:pG aHW:=(qF b2);rw[O];refine Az (second G st.1 (qF b2) C L a4)
  rw[Atk] at b3;have O:oO aHW:=(pD b3);have b4:aEN=iv r++[mF8 mQ]:=(by rw[b3];simp only[iv,List.map_append];rfl);have b5:a<=3:=bc a (pD b3);rw[O];refine Au (16,c,19,mF8 mQ,29,mN L,by rw[b4];exact U0 _ _,17,C _ _ n1 n2 a1,61,2,a,sh.Bk,2,5);refine(16,c,aEN,_,aT2,29,L,Adx (pD b4),5);have b6:aEN.set aT2 (mQ (BE a sh.Bk:Nat))=iv aFN:=by rw[b4,AlG,b3,Sj];simp only[iv,List.map_append];rfl
  rw[b6];exact second _ _ rfl (λb o b0 b1 e=>by rw[Ah b0];exact C b o b0 b1 e) Af (oN ap.symm a4)
 rintro σ G ⟨v,rfl,C,L,a4⟩;have b7:u.take (nF m.map).length=u:=(by rw[ArX,ay,AsC]);rw[b7] at L a4;have hle:=VO u 0 ([],[],) aTZ au;generalize u.foldl CZ ([],[],)=st at*;obtain⟨ba,bb,bc,bd⟩:=hle;have s2:Ab H G:=λb o e=>C b o (AR e al) (AR e (an.free am)) (pQ (pR an ao s1));refine(mF5 L);by_cases b8:st.1=[]
 .have O:pG aHW:=(qF b8);rw[O];refine Au (aR,aAa);refine k z _ (oR s2 hz) (s2.free hz) ?_;rw[Af];unfold Vf.Jb;rw[mK b8];rfl
 have O:oO aHW:=(mR b8);have bm:1<=st.1.length:=by have:st.1.length≠0:=λq=>b8 (tY q);omega
 rw[O];refine cD;refine(40,c,0,mN L,λS b9=>?_);have ca:mF0 aEN (-1)=iv st.1.dropLast:=by rw[show aMm= -((1:Nat):Int) from rfl,Se _ 1 aA kI,ArX];simp only[iv];rw[<-AuM,<-List.dropLast_eq_take]
 rw[ca];have s3:Ab G aT3:=mP b9;generalize cb:aT3=M at s3;have cc:zM M S st.1.dropLast:=(zJ cb);have cd:zK st.1.dropLast.length:=(qT Av0);refine(S,2,(oM cc),λce cf=>?_);refine F6 (J:=qJ S) st.1.dropLast.length cf eC (λj v _=>∃x,st.1.dropLast[j]? =aY /\v= mE (BB x:Nat)) iE
  (λi U I s4=>(sO s4 cc I)) (λU s4=>(rO s4 cc)) ?_ ?_ G_ F7
 .rintro i U y cg I s4 ch ⟨rfl,hy⟩ Kt cj;have ck:=qW s4 cc;rw[ArY,mJ I] at ck;simp only[Option.map_some,Option.some.injEq] at ck;subst ck;refine(2,xR (0,72,Pu (bc _ ((List.dropLast_sublist _).mem (Asw I))),5));exact mJq cj I
 intro U ys s4 hy cl cm;have cn:ys=iv aHX:=by
  apply AsJ;intro j;rw[ArY,ArY]
  cases e:ys[j]? with
  |none=>
   have:=iV;rw[lN];rfl
  |some v=>
   obtain⟨z,a0,C⟩:=wI cm;rw[a0,C];rfl
 refine(90,fM);have s5:=vP [mQ 2] hb;refine(ce,b,ys,0,2,vQ hy,Af,AL (by simp only[List.length_cons,List.length_nil,cl];omega),aMA);have bu:=vP (ys++[mQ 2]) hf;generalize bs:Aa (nE U b [mQ 2]) f (.Ac (ys++[mQ 2]))=bt at bu;have co:zM bt f aJM:=(mNx bs cn);have cp:Ab G bt:=pR s3 s4 (mX s5 bu);have cq:=mC cp a4;have cr:aJM.length=st.1.length:=dM;refine(16,f,d,3,mN co,mN cq,λcs ct=>?_);refine F6 (J:=Lw K f d) st.1.length ct eC (λj v _=>∃x y,(aHX++[2])[j]? =aY /\st.2[j]? =mB y/\v= mE ((x+y:Nat):Int)) iE
  (λi cu I Y=>(mNy Y co cq))
  (λcu Y=>(mJj Y co cq)) ?_ ?_ V5 F7
 .rintro i cu y bw I Y ch ⟨cx,cy,cz,rfl,c0,rfl,c1,c2⟩ Kt cj;have c3:=xV c1 Y co;have c4:=xV c2 Y cq;rw[ArY,fP] at c3 c4;simp only[Option.map_some,Option.some.injEq] at c3 c4;subst c3;subst c4;refine(mDO cx Af xR);refine aT4;exact cj _ _ (mP c0) (19,fP,fP,by show mQ (_+_)=V.int _;congr 1)
 intro cu zs Y hz c5 c6;refine k cs cu (pR s2 cp Y) (mDS s2 cp ct) ?_;rw[hz];congr 2;unfold Vf.Jb;rw[mM b8];apply AsJ;intro j;rw[ArY,List.getElem?_zipWith]
 cases e:zs[j]? with
 |none=>
  have:=iV;rw[As9 (l:=st.2) aA]
  cases (aHX++[2])[j]? <;>rfl
 |some v=>
  obtain⟨a,c7,a0,C,bg⟩:=wI c6;rw[a0,C,bg];rfl
theorem Adz(x:Str)(n:Nat):∀(cuts:aB)(a:Nat),(StrLaws.partsFrom x n a cuts).length=cuts.length+1
 |[],a=>rfl
 |c::r,a=>by
  show(StrLaws.partsFrom x n (c+n) r).length+1=_;rw[Adz x n r];rfl
theorem VP(c:Nat):∀(b w:Vf.Txt),aMw.length=mDZ c+1
 |[],w=>rfl
 |d::r,w=>by
  unfold Kgz1.parts;by_cases e:d=c
  .subst e;rw[bE,As1,VP d r,List.count_cons_self]
  rw[bN,VP c r,List.count_cons_of_ne hS]
theorem Ad0(x y:Str)(c:Nat)(hy:sJ y=[c]):Txt.count x y=(aV.count c:Nat):=by have a:sJ y≠[]:=(pD hy);obtain⟨f,g,b⟩:=StrLaws.occ_tight x y (TL.Z9 a);have key:=TL.UO a _ 0 f aR g b;rw[Atv,hy,Sh] at key;have d:=yJ key;rw[ArX,Adz,VP] at d;unfold Txt.count;grind
theorem Ad1:∀b:Vf.Txt,mDZ 45+mDZ 117<=b.length/\((mDZ 45+mDZ 117=b.length)↔b.all aJP=true)
 |[]=>by simp
 |d::r=>by
  have a:=Ad1 r;grind
theorem VQ:tX "-"=[45]:=by decide+kernel
def AlI:Sp:=λvs H Q _=>∃(b:Vf.Txt),vs=[oK b]/\b.length<=100000/\rG (Eh b)
theorem Ad2:AD ["text","signs"] lK (A0 ZY):=aG
theorem AlJ(T:aD):A4 P w K mg base A9 1 t.LF t.Abo lK AlI:=by
 refine T.LF.F.ok Ad2 cM (λa A outer s H vs Q E d h=>?_)
 .obtain⟨b,rfl,_⟩:=h;rfl
 obtain⟨b,rfl,hb,k⟩:=h;obtain⟨f,g,j⟩:=T.V2;obtain⟨l,m,n⟩:=T.Akk;obtain⟨o,p,r⟩:=T.AcJ;refine(_,(Ak (tE Ad2.nd (AE DA (mNE g j) (mNE m n)))
  (Ao (A3 (OB (Ul DB DB Ar aMk (nT p r)) (JY (mAQ CL aQ aMk)))))),5)
 have u:pX (mk b).length:=fT;refine(0,bY,8,0,bY,8,8,5);rw[mV Ad0 45 VQ,mV Ad0 117 Adb];refine(mNF u);rw[BT];unfold Eh at k;by_cases c1:1<=b.length
 .rw[mAR mAM];rw[mU c1] at k;refine aEK;by_cases v:b.length<=4
  .rw[mNG Int 4];rw[mU v] at k;refine Au (40,u,2,5);rw[BT];have e:decide (mQ (((sJ (mk b)).count 45:Nat)+((sJ (mk b)).count 117:Nat))=mAR mQ)=b.all aJP:=by
    rw[Fo,Aty,Aup,<-(Ad1 b).2];constructor
    .intro q;injection q with q;omega
    intro q;congr 1;omega
   rw[e];exact k
  rw[mNH 4];rw[mS v] at k;exact Az k
 rw[mAR mAN];rw[mS c1] at k;exact Az (0,Az k)
def Ad3(K:PySem.W.Frag):Sp:=λvs H Q _=>∃(a:Addr)(ws:dD),vs=cP /\tV (sv ws)/\(∀x∈ws,x.length<=100000)/\ws.length<=100000/\∀H',aO ->mAS (E1 ws)
abbrev AlK:List Str:=["ways","way"]
theorem VR:AD ["ways","way"] ["ways"] (A0 UX):=aG
theorem AlL(T:aD):A4 P w K mg base A9 2 t.LG t.Abp ["ways"] (Ad3 K):=by
 refine vL T.LG.F.ok VR
 .obtain⟨a,ws,rfl,_⟩:=h;rfl
 obtain⟨a,ws,rfl,d,hw,f,k⟩:=h;obtain⟨g,l,m⟩:=T.Aki;refine(_,(Ao (A3 (OB (mAQ DB aAE (nT l m)) (JY (mF9 (Ad (Dk rfl VR.nd aC4 (qD ("way",1,) AlK UX) (pE 1 VR.nd) cI (mDM (Bb (AlJ T) eE rfl T.LF.m T.LF.F.kp T.LF.b .nil Ay dU))) Ai)))))),77,0,mH d,55);rw[ArX];unfold E1 at k;by_cases c1:ws.length<=4
 .rw[mU (by omega:((ws.length:Nat):Int)<=4)];rw[mU c1,AtS] at k;refine Au (77,2,(qU d),λD o=>?_);refine F6 (J:=aAq) ws.length o eC (mGa ws[j]? (Eh x)) iE
   (λi p q s2=>(mJv d q)) (λp s2=>(mJw d)) ?_ ?_ G_ F7
  .rintro i p y r q s2 u ⟨rfl,hy⟩ Kt z;have C:=xQ s2.seq d;rw[ArY,mJ q] at C;simp at C;subst C;refine(zL (16,uT hw q,5));exact mJq z q
  intro p ys s2 hy G I;have L:ys=aMI.map V.bl:=by
   apply AsJ;intro j;rw[ArY,ArY]
   cases e:ys[j]? with
   |none=>
    have:=iV;rw[lN];rfl
   |some v=>
    obtain⟨n,M,N⟩:=wI I;rw[M,N];rfl
  refine(D,aMI,2,mGb L,5);rw[show aMI.all id=ws.all Eh by rw[Atw];rfl];exact k p s2
 rw[mS (by omega:¬((ws.length:Nat):Int)<=4)];rw[mS c1,At5] at k;exact Az (k H fA)
theorem AlM:∀k,k<17->sJ (toString ((k:Nat):Int):String)=Jd k:=by decide+kernel
def AlN:Sp:=λvs H Q _=>∃(n:Nat),vs=[lP]/\n<=16/\∀D H',H D=none-> aO -> dQ=zO aA4 -> eS
abbrev AlO:List Str:=aT5
theorem VS:AD aT5 ["most"] (A0 UY):=aG
theorem Ad4(T:aD):A4 P w K mg base A9 1 t.Iq t.Abq ["most"] AlN:=by
 refine qI T.Iq.F.ok VS
 .obtain⟨n,rfl,_⟩:=h;rfl
 obtain⟨n,rfl,c,k⟩:=h;refine(_,(Ao (A3 (Dk rfl VS.nd (AhJ rfl T.L_ (uC Ar (vK aL))) (qD ("number",1,) AlO UY) (pE 1 VS.nd) cI (pZ (QW Aib rfl T.Akx Ak3 dU))))),0,8,(1),(n:Int)+1,2,(21,21,4,4),λD d=>?_);have f:(((n:Int)+1) - 1).toNat=n:=aA;rw[f];refine F6 (J:=Jl 1 n) n d eC (λj v _=>v= oK (Jd (j+1))) iE (λi g l s2=>l) (λg s2=>aF) ?_ ?_ G_ F7
 .rintro i g y m l s2 o ⟨rfl,rfl⟩ Kt p;refine(zL (16,5,5))
  .have q:∀k:Nat,k<17->(1+(k:Int)).natAbs.log2<1920:=aHJ;exact q i aA
  refine p _ _ fA ?_;have:=AlM (i+1) aA;rw[show((1:Int)+(i:Int))=((i+1:Nat):Int) by omega];congr 1;exact Pp this
 intro g ys s2 hy r u;refine k D g d s2 ?_;rw[hy];congr 2;apply AsJ;intro j;rw[ArY];unfold Fe;rw[ArY]
 cases e:ys[j]? with
 |none=>
  have:=iV;rw[As9 (qT As4)];rfl
 |some v=>
  rw[wI u,mJ (mAp As4 (zP (nS e).1)),List.getElem_range];rfl
theorem AlP:tX "."=[46]:=by decide+kernel
theorem Ad5(l:Vf.Txt)(ms:dD):mDJ l (sv ms)=decide (l∈ms):=by have:=Mb l (ms.map mk) ms (by rw[AsB];(conv=>rhs;rw[<-mJm ms]);rfl);rw[<-this,AsB];rfl
theorem Sm(ms:dD):nI (sv ms).all Fh:=by rw[Atw,AsL];intro x _;rfl
theorem Ad6(h:l∈ms):∃i,Fz ms l=mB i/\ms[i]? =mB l/\∀j y,j<i->ms[j]? =mB y->y≠l:=by
 unfold Fz
 cases e:List.findIdx? (·==l) ms with
 |none=>
  grind
 |some i=>
  refine(i,2,5,5)
  .rw[AtQ] at e;grind
  intro j y hj hy q;rw[AtQ] at e;grind
theorem Ad7(h:l∉ms):Fz ms l=none:=by unfold Fz;grind
def AlQ:oG Nat->oG Nat->oG gY
 |some x,some y=>mB (x,y,)
 |_,_=>none
def Ad8(H:Hp)(H':Hp)(o:oG gY)(v:V):Prop:=match o with
 |none=>v= .Ax
 |some c=>∃q,v= mF q/\H q=none/\H' q=mNI Int
def AlR:Sp:=λvs H Q _=>∃(b:Vf.Txt)(n:Nat),vs=[oK b,lP]/\b.length<=100000/\n<=16/\∀v H',aO ->Ad8 H H' aFR v->oJ v
theorem Sn:AD ["text","foot_count","parts","feet","places"] aLR (A0 ZZ):=aG
theorem AlS(T:aD):A4 P w K mg base A9 2 t.LH t.Abr aLR AlR:=by
 refine mDQ T.LH.F.ok Sn
 .obtain⟨b,n,rfl,_⟩:=h;rfl
 obtain⟨b,n,rfl,hb,d,k⟩:=h;obtain⟨ab,o,p⟩:=T.AcJ;refine(_,(Ak (pY Sn.nd (MO aL Ic))
  (Ak (rL Sn.nd (mNJ dU))
  (Ak (qE Sn.nd (mNJ (mT (nT o p))))
  (Ak (zE (PW.pt (Id (pB Y7 aC5 Ar) (Id (zF (rZ AcT) gS bF) (JX (zF (rZ AcT) gS bI))))))
  (mD0 (CV (mAT (mNK bF) (mNK bI)))))))),5)
 refine(0,91,aMx);rw[mD1 46 AlP,Fo];rw[show(mGc 46 b).map V.str=sv (uB 46 b) by rw[AsB];rfl];have s1:Ab H (nX a (.Ac (sv (uB 46 b)))):=mP ha;unfold EF at k;generalize Kgz1.parts 46 b []=r at*;generalize u:nE H a (sv r)=H1 at*;refine(0,n,2,d,λf ac hf s2 z=>((4),2,21,λg B hg s3 C=>?_));have D:=nP s3 s2 (zJ u);have G:=rY z;have I:Ab H B:=aHY;refine(mF1 a uU D);have hlen:decide (mQ ((sv r).length:Nat)=mQ 2)=decide (r.length=2):=by
  rw[ArX];apply At0.mpr;constructor
  .intro q;injection q with q;omega
  intro q;rw[q];rfl
 rw[hlen]
 match r,D,k with
 |[],D,k=>exact xU aMJ
 |[_],D,k=>exact xU aMJ
 |_::_::_::_,D,k=>
  refine eD;exact Au aMJ
 |[x,y],D,k=>
  have k':∀v H',aO ->Ad8 H H' (AlQ (Fz aA4 x) (Fz (Fe 4) y)) v->Q v H':=k;refine cD;refine(145,0,f,0,uU G,2,Sm _,0,5);rw[Ad5];by_cases hx:x∈ aA4
  .rw[mU hx];refine cD;refine(146,0,g,0,uU C,2,Sm _,0,5);rw[Ad5];by_cases hy:y∈Fe 4
   .rw[mU hy];refine cD;obtain⟨i,J,L,M⟩:=Ad6 hx;obtain⟨j,ae,af,ag⟩:=Ad6 hy;have N:∀O U:Vf.Txt,FM (oK O) (oK U)=decide (O=U):=λO U=>by
     show(mk O==mk U)=_;rw[AcS]
    have Jx:∀(ms:dD)(l:Vf.Txt)(i:Nat),(∀j y,j<i->ms[j]? =mB y->y≠l)->∀(m:Nat)(Y:V),m<i->(sv ms)[m]? =mB Y->FM Y (oK l)=false:=by
     intro ms l i h m Y hm hz;rw[ArY] at hz
     cases e:ms[m]? with
     |none=>rw[e] at hz;cases hz
     |some ah=>
      rw[e] at hz;injection hz with hz
      subst hz;rw[N];exact mS (h m ah hm e)
    refine(0,pL G,145,f,19,i,rX x,29,mN G,2,Sm _,by rw[ArY,L];rfl,by rw[N];simp,rW Jx M,5);refine(0,pL C,146,g,19,j,rX y,29,mN C,2,Sm _,by rw[ArY,af];rfl,by rw[N];simp,rW Jx ag,5);refine(mDR 2);refine k' _ _ (oR I hq) ?_;rw[J,ae];exact(q,2,I.free hq,Af)
   rw[mS hy];refine eD;refine k' .Ax B I ?_;rw[Ad7 hy]
   cases Fz aA4 x<;>rfl
  rw[mS hx];refine Au eD;refine k' .Ax B I ?_;rw[Ad7 hx];rfl
theorem AlT(b:cH)(hu:lJ):Bt X aGH (λx y H Q=>x= .Ax/\∃p xs,y= aS /\ aEf /\(mNL K)/\rG (mNM xs.any)):=by
 subst b;intro pins s σ H x y v u Q d e f h;obtain⟨rfl,p,xs,rfl,hq,hf,q⟩:=h
 cases e
 cases f
 obtain⟨g,r,pl,hz⟩:=d.list hq;have i:∀{xs:aK}{g:aT},AB xs g->(mNL X.K)->(∀w∈g,SeqAt.EqAt X.A.in1 s w .none (E6 .Ax w))/\g.any (E6 .Ax)=xs.any λv=>decide (v= .Ax):=by
  intro xs g r
  induction r with
  |nil=>intro _;exact(λw hw=>(by cases hw),2)
  |cons j k l=>
   intro hf;rename_i v0 m n o;obtain⟨z,A⟩:=l λv B=>pH hf v B;rcases hf v0 AsG with rfl|⟨a,c,rfl,C⟩
   .cases j
    refine aT6;rcases pN hw with rfl|hw
    .exact aLb
    exact z w hw
   cases j
   obtain⟨D,_,pt,_⟩:=d.tuple C;refine aT6;rcases pN hw with rfl|hw
   .exact SeqAt.EqAt.tuple_none pt aT7
   exact z w hw
 obtain⟨z,A⟩:=i r hf;refine SeqAt.in_listAt (E6 .Ax) pl.isList (λw hw=>z w (mR hw)) (.bl _,H,d,2,5);grind
abbrev VT(f c:V):List gG:=[("feet",f,),("cuts",c,)]
def Ad9(t:Aw):Sp:=λvs H Q _=>∃(p dx:Addr)(f c:V),vs=[aS,f,c]/\H p=rM t.ID/\sP (qV (nB t.ID (VT f c)))
theorem AlU:AD aHk aHk (A0 ZX):=aG
theorem AlV(T:aD):A4 P w K mg base A9 1 t.MQ t.Abn aHk (Ad9 t):=by
 refine qI T.MQ.F.ok AlU
 .obtain⟨p,dx,f,c,rfl,_⟩:=h;rfl
 obtain⟨p,dx,f,c,rfl,hp,k⟩:=h;refine(_,(Ak aAG
  (Ao lQ)),5)
 refine(69,105,52,106,189);rw[B1];exact k
def F9(H:Hp)(c:Addr)(cuts:cA):Prop:=∃a:aP,H c=aC2 /\a.length=cuts.length/\∀(j:Nat)(p:Addr)(x:gY),a[j]? =gH ->cuts[j]? =aY ->H p=oI [mE (x.1:Int),mE (x.2:Int)]
theorem F9.same(h:F9 H c cuts)(s:aO):F9 H' c cuts:=by obtain⟨g,i,q,u⟩:=h;exact aT8
def AlW(H':Hp)(o:oG cA)(v:V):Prop:=match o with
 |none=>v= .Ax
 |some cs=>∃q,v= mF q/\F9 H' q cs
def AlX(K:PySem.W.Frag):Sp:=λvs H Q _=>∃(a:Addr)(l:dD)(n:Nat),vs=[aI,lP]/\tV (sv l)/\(∀x∈l,x.length<=100000)/\l.length<=100000/\n<=16/\∀v H',aO ->AlW H' (JP n l) v->oJ v
abbrev AlY:List Str:=aT9
theorem VU:AD aT9 aLS (A0 UZ):=aG
theorem AlZ(T:aD):A4 P w K mg base A9 3 t.LI t.Abs aLS (AlX K):=by
 refine mBZ T.LI.F.ok VU
 .obtain⟨a,l,n,rfl,_⟩:=h;rfl
 obtain⟨a,l,n,rfl,d,hx,ab,ac,k⟩:=h;obtain⟨ae,af,ag⟩:=T.Akj;refine(_,(Ak (HD (i:=2) rfl VU.nd rfl rfl jH aC4 (qD ("text",3,) AlY UZ) (pE 3 VU.nd) cI (λ_ _ _ _ _=>(Bb (AlS T) dR rfl T.LH.m T.LH.F.kp T.LH.b .nil Ay (pS 3 1))))
  (Ak (zE (PW.pt (Id (pB Li aC5 aHR) (JX (zF (mB7 AlT (F5 b)) Da aW)))))
  aBN)),5)
 refine(77,2,(qU d),λD ah=>?_);refine F6 (J:=aAq) l.length ah eC (λj v H'=>∃x,l[j]? =aY /\((EF n x=none/\v= .Ax)\/∃c q,EF n x=bT /\v= mF q/\q≠D/\H' q=mNI Int))
  (λj v H1 f (x,g,m) e=>(x,g,m.imp (λz=>z) λ(c,q,ai,aj,o,ak)=>(c,q,ai,aj,o,mV e o ak)))
  (λi f r s2=>(mJv d r)) (λf s2=>(mJw d)) ?_ ?_ G_ F7
 .rintro i f y al r s2 am ⟨rfl,hy⟩ Kt an;have u:=xQ s2.seq d;rw[ArY,mJ r] at u;simp at u;subst u;refine(zL (16,l[i],n,2,uT hx r,ac,λv ao s4 C=>?_));refine an v ao s4 (l[i],mJ r,5)
  cases e:EF n l[i] with
  |none=>rw[e] at C;exact xB rfl C
  |some c=>
   rw[e] at C;obtain⟨q,g,m,G⟩:=C;exact mI (c,q,2,g,λz=>am (z▸m),G)
 intro f ys s2 hy I L;have ap:(mNM ys.any)= !l.all aMK:=by
  rw[Aty];simp only[List.any_eq_true,decide_eq_true_eq,Bool.not_eq_true',List.all_eq_false];constructor
  .rintro⟨v,C,rfl⟩;obtain⟨j,hj,e⟩:=Asy C;obtain⟨x,g,m⟩:=L j .Ax aBL;refine(x,Asl g,5);rcases m with⟨m,_⟩|⟨c,q,_,G,_⟩
   .rw[m];simp
   cases G
  rintro⟨x,aq,M⟩;obtain⟨j,hj,e⟩:=Asy aq;have ar:j<ys.length:=aA;obtain⟨as,g,m⟩:=L j ys[j] (mJ ar);rw[cW,e] at g;injection g with g
  subst g;rcases m with⟨_,m⟩|⟨c,q,G,_⟩
  .exact(ys[j],Asw ar,m)
  rw[G] at M;simp at M
 refine(mAK D (mN hy));rw[I];unfold JP at k;by_cases N:l.length<=8
 .rw[mS (by omega:¬(8:Int)<(l.length:Nat))];refine Az (0,2,D,ys,2,mN hy,λv C=>?_,0,5)
  .obtain⟨j,hj,e⟩:=Asy C;obtain⟨x,g,m⟩:=L j v aBL;rcases m with⟨_,m⟩|⟨c,q,_,G,_,h4⟩
   .exact mH m
   exact mI (q,_,G,nO h4)
  rw[ap];by_cases ha:l.all aMK=true
  .rw[ha];rw[mK N,mK ha] at k;refine Az aAC;refine k _ f s2 (rF D rfl);obtain⟨au,O⟩:=Si ys λv C=>by
    obtain⟨j,hj,e⟩:=Asy C;obtain⟨x,g,m⟩:=L j v aBL;rcases m with⟨m,_⟩|⟨c,q,_,G,_⟩
    .have:=vW ha x (Asl g);rw[m] at this;cases this
    exact(q,G)
   refine(au,by rw[hy,O],by rw[ArX,<-I,O,ArX],λj p x g m=>?_);obtain⟨as,av,U⟩:=L j aS (mF7 O g);rw[ArY,av] at m;injection m with m
   rcases U with⟨_,U⟩|⟨c,q,e3,Y,_,aw⟩
   .cases U
   injection Y with Y
   subst Y;simp only[e3,Option.getD_some] at m;subst m;exact aw
  have ax:pV l.all aMK:=(mR ha);rw[ax];rw[mK N,mM ha] at k;exact Au (mGd f s2)
 rw[mU (by omega:(8:Int)<(l.length:Nat))];rw[mM N] at k;exact xU (mGd f s2)
def NK(H:Hp)(f:Addr)(feet:jJ):Prop:=∃a:aP,H f=aC2 /\a.length=feet.length/\∀(j:Nat)(p:Addr)(x:dD),a[j]? =gH ->feet[j]? =aY ->H p=zO x
theorem NK.same(h:NK H f feet)(s:aO):NK H' f feet:=by obtain⟨g,i,q,u⟩:=h;exact aT8
def II(t:Aw)(H:Hp)(p:Addr)(m:Bi):Prop:=∃dx f c,H p=pI t.ID (VT iW (mF c))/\NK H f m.feet/\F9 H c m.cuts
theorem II.same(h:II t H p m)(s:aO):II t H' p m:=by obtain⟨dx,f,c,g,i,j⟩:=h;exact(dx,f,c,143)
def AdA(t:Aw)(H':Hp)(o:oG Bi)(v:V):Prop:=match o with
 |none=>v= .Ax
 |some m=>∃p,v= aS /\II t H' p m
theorem VV(f:Vf.Txt):Ho [f]=if EG dI then aPw else none:=rfl
theorem So(f c:Vf.Txt):Ho [f,c]=if EG dI then(match JP dI.length (uB 44 c) with
 |some k=>mB (dI,k)
 |none=>none) else none:=rfl
theorem AdB{a:aP}{feet:jJ}{c:hI}
 (d:f D=aC2) (g:a.length=feet.length) (k:∀(j:Nat)(p:Addr)(x:dD),a[j]? =gH ->feet[j]? =aY ->f p=zO x)
 (hsz:∀x∈feet,x.length<=100000/\∀y∈x,y.length<=100000) (l:feet.length<=100000) (n:nA f o) (q:∀v,Co (eB.set i bJ) vs=eB) (r:∀v,(eB.set i bJ)[i]? =aD3)
 (hd:∀s,Ab f s->s o=nV ((feet.map E1).map V.bl)->c s):
 ∃W:aEu,(mJx f o)/\∀j m H,W j m H->
  ((qJ D).stop j H/\c H)\/((qJ D).go j H/\∃u:hI,(∀H',u H'->∃z,z<m/\W (j+1) z H')/\∀x H',(qJ D).Fg j H x H'->EY i x eB H' λA C=>Co A vs=eB /\MF A C λb E=>
    if b=true then QT (Ad3 K) [] E0 (xW Bo i) A E λy G=>∃acc,G o=aBv /\acc.length<sizeLine/\u (nE G o (acc++[y])) else u E):=by
 refine F6 (J:=qJ D) feet.length n eC (mGa feet[j]? (E1 x)) iE
  (λi s q I=>(sO I d aA)) (λs I=>(rO I d)) ?_ ?_ G_ F7
 .rintro j s y L hj I M ⟨rfl,hy⟩ Kt N;have O:=qW I d;rw[ArY,fP] at O;simp at O;subst O;have Q:=hsz feet[j] (Asw hj);refine(q _,xR (_,r _,_,feet[j],2,nD I (k j _ _ fP cW),Q.2,Q.1,λT U=>?_));grind
 intro s ys I hy Y aa;refine hd s I ?_;rw[hy];congr 2;apply AsJ;intro j;rw[ArY,ArY]
 cases e:ys[j]? with
 |none=>
  grind
 |some v=>
  grind
def Al_(K:PySem.W.Frag)(t:Aw):Sp:=λvs H Q _=>∃(a:Addr)(ns:bG),vs=cP /\ iC /\ns.length<=30000/\ aUa /\∀v H',aO ->AdA t H' (Je jG) v->oJ v
theorem Ama:tX "-u|,;.0123456789"=Jc:=by decide+kernel
theorem Amb:tX ";"=[59]:=by decide+kernel
theorem Amc:tX "|"=[124]:=by decide+kernel
theorem AdC:tX ","=[44]:=by decide+kernel
theorem Amd(x:Vf.Txt)(ns:bG)(h:aUa):(mJy ns.all x.any)=jG.all λc=>x.contains c:=by
 rw[Atw]
 induction ns with
 |nil=>rfl
 |cons n r a=>
  grind
abbrev AdD:List Str:=aUb
theorem K9:AD aUb aBC (A0 R3):=aG
theorem VW(T:aD):A4 P w K mg base A9 4 t.Gz t.Abt aBC (Al_ K t):=by
 refine oW T.Gz.F.ok K9
 .obtain⟨a,ns,rfl,_⟩:=h;rfl
 obtain⟨a,ns,rfl,ac,ae,af,k⟩:=h;obtain⟨ag,ah,ai⟩:=T.AjV;obtain⟨aj,ak,al⟩:=T.Akh;obtain⟨am,an,ao⟩:=T.AcI;refine(_,(Ak (tE K9.nd (Bb (VC T) bR rfl T.Gx.m T.Gx.F.kp T.Gx.b .nil Ay (oV aL aMr)))
  (Ak (zE (PW.pt (Id (mAU aQ) (JX (Ff (QO DB DB Ar (wJ HB aQ) (nT ak al)))))))
  (Ak (pY K9.nd (MO aQ Ic))
  (Ak (HD (i:=3) rfl K9.nd rfl rfl jH (qC (MO gS Ic)) aUc (pE 4 K9.nd) cI (pZ (MO bI Ic)))
  (Ak (AU (PW.pt (Id (pB Li aC5 Ar) (Id (pB Li (uD pv 3) aML) (JX (Ff (D9 (mF9 (Ad (Dk rfl K9.nd (qC bF) aUc (pE 4 K9.nd) cI (mDM (Bb (AlL T) bR rfl T.LG.m T.LG.F.kp T.LG.b .nil Ay lO))) Ai)))))))) (oL Da) AY)
  (Ak (sA K9.nd (Ie (xT aC5) (Bb (AlZ T) bR rfl T.LI.m T.LI.F.kp T.LI.b .nil Ay (uC (MO gS Ic) (uD pv 3))) eU))
  (Ak (zE aHZ)
  (Ao (A3 (Dc T.IE.k (AlV T) bR rfl T.IE.m T.MQ.b .nil Ay (pS 3 5))))))))))),5)
 refine(77,ns,0,ac,ae,12,λH1 s1=>?_);rw[Ama];unfold K6;rw[Amd Jc ns af];unfold Je at k;generalize hb:jG=b at*;have ap:b.length=ns.length:=(mBT hb ArX);by_cases aq:(b.all λc=>mEO c)=true
 .rw[mK aq];rw[aq,AtS] at k;refine aH0;refine(mNF fT);rw[BT];by_cases ar:1<=b.length
  .rw[mAR mAM];rw[mU ar,AtS] at k;refine aEK;by_cases d:b.length<=255
   .rw[mNG Int 255];rw[mU d,bE] at k;refine cD;refine(0,91,λg as=>?_);rw[mD1 59 Amb,Fo];rw[show(mGc 59 b).map V.str=sv (uB 59 b) by rw[AsB];rfl];have au:=Qs 59 b [];have av:=Me 59 b [];have s2:Ab H1 (mF2 g (sv (uB 59 b))):=mP as;generalize Kgz1.parts 59 b []=aw at*;generalize ax:nE H1 g (sv aw)=ay at*;have az:sL ay g (sv aw):=(zJ ax);obtain⟨f0,pt,rfl⟩:∃f0 pt,aw=f0::pt:=by
     cases aw with
     |nil=>simp at au
     |cons x y=>exact aHM
    have a0:=av.2 f0 aC;simp at a0;refine(0,g,19,rX f0,29,mN az,cN,91,λl a1=>?_);rw[mD1 124 Amc,Fo];rw[show(mGc 124 f0).map V.str=sv (uB 124 f0) by rw[AsB];rfl];have a2:=Me 124 f0 [];have a3:dG=(uB 124 f0).map λf=>Kgz1.parts 44 f []:=rfl;generalize Kgz1.parts 124 f0 []=m at*;have s3:Ab ay aUd:=mP a1;generalize a4:aUd=a5 at*;have a6:sL a5 l (sv m):=(zJ a4);refine(l,2,(oM a6),λD a7=>?_);refine F6 (J:=qJ l) m.length a7 eC (λj v H'=>∃x p,m[j]? =aY /\v= aS /\p≠D/\H' p=zO (uB 44 x))
     (λj v n u (x,p,a8,a9,ba,bb) e=>(x,p,a8,a9,ba,mV e ba bb))
     (λi n bc s5=>(sO s5 a6 bc)) (λn s5=>(rO s5 a6)) ?_ ?_ G_ F7
    .rintro i n y u bc s5 bd ⟨rfl,hy⟩ Kt be;have bf:=qW s5 a6;rw[ArY,mJ bc] at bf;simp at bf;subst bf;have bg:=a2.2 m[i] (Asw bc);simp at bg;refine(zL (0,91,hE));rw[mD1 44 AdC,Fo];rw[show(mGc 44 m[i]).map V.str=sv (uB 44 m[i]) by rw[AsB];rfl];exact be _ _ (mP hp) (m[i],p,mJ bc,2,λe=>bd (e▸hp),Af)
    intro n ys s5 hy bh bi;obtain⟨bj,bk⟩:=Si ys λv C=>by obtain⟨j,hj,e⟩:=Asy C;obtain⟨x,p,_,d,_⟩:=bi j v aBL;exact(p,d)
    have G:bj.length=dG.length:=(by rw[a3,ArX,<-bh,bk,ArX]);have hF:NK n D dG:=by
     refine(bj,by rw[hy,bk],G,λj p x I bm=>?_);obtain⟨z,bn,a8,a9,ba,bb⟩:=bi j aS (mF7 bk I);injection a9 with a9
     subst a9;rw[a3,ArY,a8] at bm;injection bm with bm
     subst bm;exact bb
    have hsz:∀x∈ dG,x.length<=100000/\∀y∈x,y.length<=100000:=by intro x hx;rw[a3] at hx;obtain⟨z,hz,rfl⟩:=aAc;have ar:=a2.2 z hz;have d:=Me 44 z [];simp at ar d;exact(4,λy hy=>by have:=d.2 y hy;omega)
    have bo:dG.length<=100000:=(by rw[a3,ArX];omega);have L:Ab H n:=pR s1 s2 (mX s3 s5);have M:=nP s5 s3 az;have N:∀(o:oG Bi),Ho (f0::pt)=o->∀v H',aO ->AdA t H' o v->Q v H':=λo e v H' bp h=>k v H' bp (oD e h);have O:sL n D (nF bj.map):=(pW hy bk);obtain⟨_,bq⟩:True/\∀(j:Nat)(p:Addr)(x:dD),bj[j]? =gH -> dG[j]? =aY ->n p=some (.Ac (sv x)):=by
     obtain⟨br,I,bm,e3⟩:=hF;rw[O] at I;injection I with I
     injection I with I
     have:bj=br:=Au3 aTw |>.mp I;subst this;exact(85,e3)
    have fin:∀(c:Addr)(cs:cA)(u:Hp),Ab n u->F9 u c cs->Ho (f0::pt)=mB (dG,cs)->
     EL (Ii (Kd (CU aRl aC6 aGj)) (J_ aGj) Ih) (J_ (QU t.ID (Ad9 t) [] E0 (DY (Bo 3) (xW Bo 5)))) {nx:=λ_ H'=>cU,rt:=Q} [mG a,oZ oK b,mG g,mG D,none,mG c] u:=by
     intro c cs u U hc he;refine aH0;refine(16,λp dx hp bs bt=>?_);have bu:Ab u (mJp u t.ID):=mAO bs bt;refine(p,dx,3,88,5);rw[B1];have bv:Ab u (nN (qL u dx p) (nB t.ID (VT hL (mF c)))):=mAO bs bt;exact N _ he _ _ (pR L U bv) (p,2,dx,D,c,Af,hF.same (mX U bv),hc.same bv)
    refine(mAK g (mN M))
    match pt,M,N,fin with
    |c1::bw::r,M,N,fin=>
     rw[mU (by simp;omega:(2:Int)<((sv (f0::c1::bw::r)).length:Nat))];exact xU (N none rfl .Ax n L rfl)
    |[],M,N,fin=>
     refine aUe;rw[ArX,G];by_cases Y:dG.length<=16
     .rw[aUf];refine aUg;refine AdB O G bq hsz bo bz lM lM λu U h6=>?_;refine aUh;rw[show(dG.map E1).all id=dG.all E1 by rw[Atw];rfl];by_cases Av:dG.all E1=true
      .rw[Av];refine Az (0,g,0,wN U M,30,Az (aR,λc hc=>?_));refine fin c [] _ (oR U hc) ([],88,128) ?_;rw[VV];rw[Asd];unfold EG;rw[Av,mU Y];rfl
      have b0:pV dG.all E1:=(mR Av);rw[b0];refine mJz u U;rw[VV];rw[Asa];unfold EG;rw[b0];simp
     rw[aUi];refine xU (mJA n L);rw[VV];rw[Asa];unfold EG;rw[mS Y];simp
    |[c0],M,N,fin=>
     refine aUe;rw[ArX,G];by_cases Y:dG.length<=16
     .rw[aUf];refine aUg;refine AdB O G bq hsz bo bz lM lM λu U h6=>?_;refine aUh;rw[show(dG.map E1).all id=dG.all E1 by rw[Atw];rfl];by_cases Av:dG.all E1=true
      .have b1:nI EG dG:=(by unfold EG;rw[Av,mU Y];rfl);rw[Av];have b2:=av.2 c0 aC;simp at b2;have b3:=Me 44 c0 [];simp at b3;refine Az (mJd g (nD U M));refine(0,g,19,rX c0,29,nD U M,dW,91,λb4 b5=>?_);rw[mD1 44 AdC,Fo];rw[show(aEO.map mk).map V.str=sv aEO by rw[AsB];rfl];have bu:Ab u (Aa u b4 (.Ac (sv aEO))):=mP b5;refine(0,D,0,wN bu (mC U O),b4,aEO,dG.length,by rw[ArX,G];rfl,mN Af,λx hx=>by have:=oY b3.2;omega,4,Y,λv b6 bv C=>?_);have b7:Ab n b6:=pR U bu bv
       cases b8:JP dG.length aEO with
       |none=>
        rw[b8] at C;subst C;refine(0,30,mJz b6 b7);rw[So];rw[mK b1,b8]
       |some cs=>
        rw[b8] at C;obtain⟨c,rfl,hc⟩:=C;refine fin c cs b6 b7 hc ?_;rw[So];rw[mK b1,b8]
      have b0:pV dG.all E1:=(mR Av);rw[b0];refine mJz u U;rw[So];rw[Asa];unfold EG;rw[b0];simp
     rw[aUi];refine xU (mJA n L);rw[So];rw[Asa];unfold EG;rw[mS Y];simp
   rw[mNH 255];rw[mS d,kF] at k;exact Au aMM
  rw[mAR mAN];rw[mS ar,kF] at k;exact Az (0,Au aMM)
 rw[mM aq];rw[vA aq (mNN (mNN q).1).1] at k;exact(0,30,xU aMM)
end
end Vp
namespace Vp
open PySem PySem.Spec L2
section
variable {X:Cx}
def Ame:hK:=λx vs H Q=>∃l xs y,x= eR /\vs=[cB,y]/\H l=hG /\xs.length<sizeLine/\mFG l (y::xs)
theorem Amf:EM X "list.insert" Ame:=by
 intro pins s σ H x vs v us Q a b c h;obtain⟨l,xs,y,rfl,rfl,d,hz,q⟩:=h
 cases b
 obtain⟨f,g,rfl,i,j⟩:=c.U5;obtain⟨tk,rfl⟩:=i;obtain⟨z,k,n,r,m,e⟩:=a.Kj d;refine mFH PySem.F.slot_list_insert PySem.F.entry_list_insert (uR PySem.F.args_list_insert_3) (PySem.AutoSeq1.list_insert_list_int_val_1 l k.toArray n 0 tk g bB aGL);refine(.Ax,_,a.Re (its':=g::k) d e aC (rR j r) ?_,2,q);rw[As1];omega
end
end Vp
namespace Vp
open PySem PySem.Spec L2
section
variable {X:Cx}
def Amg(i j:Int):Prop:=0<=j/\j<=100000/\i.natAbs<2 ^ 2000
theorem Amh:Bt X aUj (mDh Amg aRh):=QK λi j _ _ _ _ _ hc q=>by have hb:=PyProof.Rows.intBits_le hc.2.2;have a:=hc.2.1;exact PyProof.Rows.lshift_int hc.1 aA q
def Ami(tk a:TE):TE:=λσ H Q=>∀p,H p=none->tk σ (qV iD) λx H1=>a σ H1 λy c=>c p=vR []/\∃k b,x= bW /\Dv c k b/\mBI c (.dT [(k,y,)])
theorem Amj(hu:lJ)(hk:nR k tk)(d:nR v f):PE X (.Dict [mB k] [v] pos) (Ami tk f):=by
 intro pins s σ H Q g q;refine wpAny_Dict_any rfl rfl aC (by show 1<=15;decide) ?_;refine pairTrees_cons_walk (A5 (hk pins _ σ _ _ (g.DV (a:=s.heap.objs.size) (o:= iD) (h':=s.heap.push {cls:= oE "dict",data:= .dict #[]}) (t':=s.toks) aLf aF (Zs s.heap g.Kl)) (q _ (g.Av.BC (mDr Asb)))) λu s1 (x,H1,h,i,j)=>A5 (rT d h j) λl s2 (y,m,n,p,e,ky,b,ex,kb,r)=>pairTrees_nil_walk ?_);subst ex
 cases (mFn b i)
 obtain⟨z,hd,xs,rel,dd⟩:=Zn n.Av e
 cases rel
 unfold storeAll;rw[List.forIn_cons];refine mZ cG;refine wpAny_dictSet_heap (hsz:=aR) (show X.A.units+8<cLine by omega) (Il n.Av kb) dd λh' A hs=>?_;refine cO;show qN (forIn [] PUnit.unit _) _;rw[AwH];refine cO;obtain⟨o,es,ep,hq,B,C,h4,_,D⟩:=A;have new:C9 X.prog X.w (mFo Aa m aUk) h' s.heap.objs.size aUk:=by refine(90,hd,[(ky,b,l,)],wC (2,kb.keeps λc ys E=>?_,p),o,68,hq,B,C,h4,D);rw[Ah (mBU E e)];exact E
 exact(eP,_,OS n aGx hs (o,hq) new,2,r)
def Sq(x:Str):It:=(aSO,λi H v H'=>∃T c,v= mF T/\H T=none/\H'=mDA aH1 /\x.cps[i]? =bT,aSP)
theorem Amk(x:Str)(t:Tok)(ty:String)(a:aSQ)(e it:Addr):
 F3 P w K aMN (Sq x) [e,it] e (λi h=>i<=x.cps.size/\ aUl /\h.IsStrIter it ty x t i/\e≠it) where
 mem:=by simp
 obj:=λi h st b hb=>by
  obtain⟨_,⟨BM,he⟩,⟨o,d,hc,hd⟩,_⟩:=st;have e':aG1:=cF;rcases e' with z|z
  .rw[z];exact(mDB he)
  rw[z];exact(mFT o d hd)
 keep:=λi h h' st k=>let(f,(BM,he),(o,d,r),g):=st;(f,aLD,(o,k it aC o d,r),g)
 item:=by
  intro X j hw l hc i pins s σ H E m hf st hg;subst j hw l;obtain⟨_,⟨BM,he⟩,hit,g⟩:=st;have n:=hg;have D:Draws X.prog X.w X.A.in1 it [it] x.cps.size aUm aGX:=by
   rcases a with z|z
   .rw[z];exact aUn
   rw[z];exact aUo
  have p:=Asu he;refine wpAny_pyNext_enum_itemD D he hit n g (mR g) λu h' tk y d B C hsz hk=>?_;obtain⟨c,G,I,rfl⟩:=y;refine(0,AuO (s:={s with heap:=h',toks:=tk+1}) d λJ L M=>?_);have new:C9 X.prog X.w (mDG aH1) J s.heap.objs.size (.Al aH1):=
   (20,[.int i tk,aUp],.cons bY (wC bY),(mIT M.2 p C))
  have N:Inv X pins σ (mDG aH1) {s with heap:=J,toks:=tk+1}:=
   mNO (λb O hb q=>(M.2 b aBA).trans (mIU O))
  obtain⟨T,U,c1,Y⟩:=id B;refine(eP,_,N,2,(_,c,2,m.Av.BC aF,2,I),(n,(aUp,5),(T,(M.2 it (Asr g)).trans U,c1,Y),g),fM)
  .have U:aSY:=aA;rw[U];exact L
  have ac:yP b:=by
   have e':aG1:=cF;rcases e' with z|z
   .rw[z];exact p
   rw[z];exact(by obtain⟨_,q,_⟩:=hit;exact Asu q)
  rw[mDC ac];exact(nJ hf).1
 done:=by
  intro X j hw l hc i pins s σ H E m hf st hg;subst j hw l;obtain⟨f,⟨BM,he⟩,hit,g⟩:=st;have n:x.cps.size<=i:=hg;have ae:i=x.cps.size:=aA;subst ae;have D:Draws X.prog X.w X.A.in1 it [it] x.cps.size aUm aGX:=by
   rcases a with z|z
   .rw[z];exact aUn
   rw[z];exact aUo
  obtain⟨f0,f1,f2,af,f4,ag⟩:=eA;exact wpAny_pyNext_enum_endD D he hit λh' ah=>(2,mNP (mIV ah))
 self:=λA i s Q E st h=>let(_,(_,he),_):=st;Aus he h
def Aml(a:TA):TI:=λσ H R=>a σ H λvs H1=>∃x,vs=[cX]/\R (Sq x) H1
theorem AdE(hg:aLF)(hm:zA tS)(ha:PA X [e] a)(hs:xH e:=by rfl):
 PI X (mAF c d) aLG (Aml a):=by
 intro pins s σ H R f h;refine AuA (mAE f Avf (mDc (A5 (xI H f) λus s1 (vs,H1,g,i,j)=>?_)));obtain⟨x,ex,q⟩:=j;subst ex
 cases i with
 |cons r k=>
  cases k
  obtain⟨t,rfl⟩:=r;refine call_enumerate_str λh' he hit hsz hk=>Aus he ?_;refine(187,mDD g.CF,Amk x t _ (by unfold strIterType;split<;>simp) aAy s1.heap.objs.size,(aR,(.none,he),hit,Awq _),fM,q);have hle:mDE b:=by
   rcases cF with z|z
   .rw[z];exact aAz
   rw[z];exact aF
  exact mDF g.Hx g.Av.BC
end
end Vp
namespace Vp
open PySem PySem.Spec L2 Vf
section
variable {P:Program} {w:World} {K:PySem.W.Frag} {mg:aN} {base:Heap} {t:Aw}
structure ScF(fs:dO)(f c s m:Addr):Prop where
 feet:nY ("feet":Str)=some (nC f)
 cuts:nY ("cuts":Str)=some (nC c)
 Cq:nY ("syllables":Str)=some (nC s)
 Es:nY ("met_values":Str)=some (nC m)
 n1:nY ("fits":Str)=none
 n2:nY ("meets_cut":Str)=none
 n3:nY ("count_by_way":Str)=none
 n4:nY ("count_from":Str)=none
 n5:nY ("count_all":Str)=none
structure Jy(t:Aw)(H:Hp)(p:Addr)(m:Bi)(sy:aB):Prop where
 ex:∃dx fs f c s q,H p=pI t.Dq fs/\ScF fs f c s q/\NK H f m.feet/\F9 H c m.cuts/\H s=nW sy/\H q=oI (if m.cuts=[] then[aGk] else[aBh,aGk])
theorem Jy.same(h:mB8 g)(s:aO):Jy t H' p m g:=by obtain⟨dx,fs,f,c,sa,q,i,j,u,h4,v,h6⟩:=h.ex;exact(dx,fs,f,c,sa,q,nH i,j,u.same s,h4.same s,nH v,nH h6)
def IJ(b:aB)(w:Vf.Txt)(a j:Nat):Bool:=sT (a+j)%4 != (if aMO=45 then 0 else 1)
theorem Amn(b:aB)(w:Vf.Txt)(a:Nat)(h:mHR a):aA5=aDR.all (IJ b w a):=by
 unfold Ct;rw[mU h,AtS];have key:∀(w:Vf.Txt)(a:Nat),a+w.length<=b.length->((w.zip aDU).all λx=>x.2%4 != aPB)=aDR.all (IJ b w a):=by
  intro w
  induction w with
  |nil=>intro a _;rfl
  |cons c r d=>
   intro a ha;simp at ha;rw[As8 aA,List.zip_cons_cons,AtJ,d (a+1) aA,As1,Avj,AtJ,Atw];congr 1
   .unfold IJ;grind
   apply AwO rfl;intro j;unfold IJ;grind
 exact key w a h
theorem Amo(x:Int)(y:Nat)(z:Nat)(h:x=z):decide (mQ x=aMp)=decide (z=y):=by subst h;exact Fp z y
def Amp(t:Aw):Sp:=λvs H Q _=>∃(p:Addr)(m:Bi)(b:aB)(w:Vf.Txt)(a:Nat),vs=[aS,oK w,aC7]/\mB8 b/\w.length<=1000/\∀H',aO ->mAS aA5
theorem Sr:AD ["self","way","at","place","sign","unfit"] aMb (A0 AaJ):=aG
theorem Amq(T:aD):A4 P w K mg base A9 1 t.Nw t.Acm aMb (Amp t):=by
 refine oW T.Nw.F.ok Sr
 .obtain⟨p,m,b,x,a,rfl,_⟩:=h;rfl
 obtain⟨p,m,b,x,a,rfl,hs,hx,k⟩:=h;obtain⟨dx,fs,f,c,sa,q,d,hF,ac,h4,g,h6⟩:=hs.ex;obtain⟨ae,l,o⟩:=T.Akc;obtain⟨af,r,v⟩:=T.Akd;obtain⟨ag,z,B⟩:=T.V2;obtain⟨ah,C,D⟩:=T.V1;refine(_,(Ak (nG (pB Li (AE DA aW (wJ HB aQ)) aC8) aBO)
  (Ak (BS Asq rfl (AdE rfl T.Ma dU) (tF 3 Sr.nd 4) (Ak (sA Sr.nd (Ie (uS bI (nT z B)) (nT l o) (nT r v)))
  (Ao (nG (uS (AE AhP (qQ aX (AE DA aW bF)) (nT C D)) bQ) aBO))))
  aBO)),5)
 refine(40,fT,8,18,d,64,sa,0,uU g,55);rw[BT,ArX];by_cases hle:a+x.length<=b.length
 .rw[mS (by omega:¬((b.length:Nat):Int)<(a:Int)+(x.length:Nat))];rw[Amn b x a hle] at k;refine Az (0,aC9,2,Fn (J:=Sq aC9) x.length (λi σ H1=>∃v1 v2 G,σ=aUq /\ fS /\∀j,j<i->IJ b x a j=true)
   (162,2,fA,λj hj=>by omega) (λi σ H1 I _=>by show i<x.toArray.size;simpa using I) (λσ H1 _=>by show x.toArray.size<=_;simp) ?_ ?_)
  .rintro i σ H1 y ai I ⟨v1,v2,G,rfl,s1,hj⟩ ⟨L,M,rfl,aj,rfl,ak⟩;have N:mB9 i=M:=by
    have:pC x[i]? M:=(mR ak);rw[Asv,this];rfl
   have s2:Ab H aUr:=oR s1 aj;refine(L,0,nO Af,2,3,8,0,79);rw[Sb VQ];have O:a+i<b.length:=aA;have al:mNQ (i:Nat) (a+i):=by rw[show(a:Int)+((i:Nat):Int)=((a+i:Nat):Int) by omega];apply AZ;rw[ArY,mJ O,Asv,mJ O];rfl
   have step:∀(u:Nat),u=(if mB9 i=45 then 0 else 1)->Ii (Kd (CU QM (CU aRa (CU (QX K) (mD2 0 "syllables") (CU aKM (Bo 2) (Bo 3))) (tC aCT)) aC6)) (J_ (tC aBh)) Ih
    {nx:=λσ H1=>∃v1 v2 G,σ=aUq /\ fS /\∀j,j<i+1->IJ b x a j=true,rt:=Q}
    [bP,aDa,aBP,aMP,mB (wE M),mW (u:Int)] aUr:=by
    intro u hu;refine(18,qA d,64,16,8,sa,36,nD s2 g,al,8,(by show(0:Int)<4;decide),0,79);rw[Amo _ u (sT (a+i)%4) aA];by_cases e:sT (a+i)%4=u
    .rw[mU e];have am:pV (oP x.length).all (IJ b x a):=by
      rw[List.all_eq_false];refine(i,mCS I,5);unfold IJ;rw[e,hu];simp
     rw[am] at k;exact Au (k _ s2)
    rw[mS e];refine Az (_,3,s2,λj U=>?_);by_cases an:j=i
    .subst an;unfold IJ;rw[<-hu];simpa using e
    exact hj j aA
   by_cases Y:M=45
   .rw[yW Y];exact Au (step 0 (by rw[N,mK Y]))
   rw[vC Y];exact Az (step 1 (by rw[N,mM Y]))
  rintro σ H1 ⟨v1,v2,G,rfl,s1,hj⟩;have ao:nI (oP x.length).all (IJ b x a):=by rw[AsL];intro j U;exact hj j (Atj.mp U)
  rw[ao] at k;exact k _ s1
 rw[mU (by omega:((b.length:Nat):Int)<(a:Int)+(x.length:Nat))];have:mAd x=false:=(by unfold Ct;rw[mS hle];rfl);rw[this] at k;exact mB6 H
def Amr(t:Aw):Sp:=λvs H Q _=>∃(p:Addr)(m:Bi)(b:aB)(i:Nat)(w:Vf.Txt)(a:Nat),vs=[aS,aCW,oK w,aC7]/\mB8 b/\w.length<=1000/\a+w.length<=b.length/\∀H',aO ->mAS (mBp w)
theorem AdF:AD ["self","foot","way","at","cut"] aMc (A0 AaK):=aG
theorem AdG(T:aD):A4 P w K mg base A9 1 t.Kx t.Acn aMc (Amr t):=by
 refine oW T.Kx.F.ok AdF
 .obtain⟨p,m,b,i,x,a,rfl,_⟩:=h;rfl
 obtain⟨p,m,b,i,x,a,rfl,hs,hx,hle,k⟩:=h;obtain⟨dx,fs,f,c,sa,q,d,hF,ac,h4,g,h6⟩:=hs.ex;obtain⟨l,n,o,r⟩:=h4;obtain⟨ae,u,z⟩:=T.V1;refine(_,(Ak (rJ aAH (oC 4 AdF.nd) (Ao (nG (PW.pt (Gq (uS aEP aQ) (Gq (pB OJ aEP (wJ HB aW)) (Jk (pB QN (qQ aX (AE DA bF aEP)) (nT u z)))))) aBO)))
  aBO),5)
 refine(18,d,33,T.Vx,hF.cuts,c,2,(oM n),E4 (K:=K) (a:=c) (xs:=nF l.map) (λj σ H1=>∃v,σ=[bP,aC0,aDa,aBP,v]/\H1=H/\ aMQ.any (mNR i)=false)
  (58,29,2) (λj σ H1 _ (_,_,e,_)=>by rw[e];exact mN n) ?_ ?_)
 .rintro j y σ H1 hj ⟨v,rfl,rfl,B⟩;rw[ArY] at hj;obtain⟨pc,C,rfl⟩:mJB l[j]?:=by
   cases e:l[j]? with
   |none=>rw[e] at hj;cases hj
   |some pc=>rw[e] at hj;exact aMR
  have D:j<m.cuts.length:=(wM o C);have G:=r j pc m.cuts[j] C (mJ D);have I:mAV m.cuts.take m.cuts[j]:=(vB AsA D);generalize m.cuts[j]=J at*;have L:(J.1==i&&decide (J.2<x.length)&&decide (4<=sT aEQ))=false->∃v,[mD3 p,aC0,aDa,aBP,mG pc]=[mD3 p,aC0,aDa,aBP,v]/\H1=H1/\(m.cuts.take (j+1)).any (mNR i)=false:=by intro hb;exact(0,2,by rw[I,List.any_append,B,Ata,hb];rfl)
  refine(0,191,cN,0,79);rw[Fp];by_cases M:J.1=i
  .rw[mU M];refine Au (0,191,dW,16,fT,55);rw[BT];by_cases N:J.2<x.length
   .rw[mU (by omega:(J.2:Int)<(x.length:Nat))];have O:a+J.2<b.length:=aA;have U:mNQ (J.2:Nat) aEQ:=by
     rw[show(a:Int)+((J.2:Nat):Int)=((a+J.2:Nat):Int) by omega];apply AZ;rw[ArY,mJ O,Asv,mJ O];rfl
    refine Au (18,d,64,16,191,dW,8,sa,36,mN g,U,55);by_cases e3:4<=sT aEQ
    .rw[mU (by omega:(4:Int)<=(b.getD aEQ 0:Nat))];have Y:mBp x=true:=by
      unfold Ei;rw[List.any_eq_true];refine(J,5,by rw[yW M,mU N,mU e3];rfl);have:J∈m.cuts.take (j+1):=(pD I);exact Av2 this
     rw[Y] at k;exact mB6 H1
    rw[mS (by omega:¬(4:Int)<=(b.getD aEQ 0:Nat))];exact Az (L (by rw[mS e3,AuD]))
   rw[mS (by omega:¬(J.2:Int)<(x.length:Nat))];exact xS (L (by rw[mS N,AuD,At5]))
  rw[mS M];exact xS (L (by rw[vC M,At5,At5]))
 rintro σ H1 ⟨v,rfl,rfl,B⟩;rw[ArX,o,AsC] at B;have L:pV mBp x:=B;rw[L] at k;exact k H1 fA
def EO(a:Nat)(Am:Bool):Ky:= mGe (a:Int) (mAi Am)
def Mf(H:Hp)(d:Addr)(N:aDb)(ok:Bool->Prop):Prop:=∃b:bH,H d=vR b/\∀a Am,ok Am->(mCa b).getD cB= mE (N a Am:Nat)
theorem Mf.same(h:Mf H d N ok)(s:aO):Mf H' d N ok:=by obtain⟨g,i,j⟩:=h;exact(g,nH i,j)
theorem Ss(h:H q=oI [aC7,.bl Am]):Dv H (EO a Am) q:=by refine(oH (q,192,mI (Am,29),2));simp[EO,Ky.depth,Ky.C2]
def FU(m:Bi)(Am:Bool):Prop:=Am=true\/m.cuts≠[]
def Ams(t:Aw):Sp:=λvs H Q _=>∃(p:Addr)(m:Bi)(b:aB)(i:Nat)(w:Vf.Txt)(a:Nat)(Am:Bool)(d:Addr)(N:aDb),vs=[aS,aCW,oK w,aC7,.bl Am,dC]/\mB8 b/\w.length<=1000/\FU m Am/\mJC N/\
 ∀H',aO ->oJ (.int ((if aA5 then N aDW aJ5 else 0:Nat):Int))
theorem Amt:AD aHw aHw (A0 AaL):=aG
theorem VX(T:aD):A4 P w K mg base A9 2 t.I0 t.Aco aHw (Ams t):=by
 refine T.I0.F.ok Amt cM (λb A outer s H vs Q E e h=>?_)
 .obtain⟨p,m,g,i,x,a,Am,d,N,rfl,_⟩:=h;rfl
 obtain⟨p,m,g,i,x,a,Am,d,N,rfl,hs,hx,hm,hd,k⟩:=h;obtain⟨dx,fs,f,c,sa,q,j,hF,l,h4,n,h6⟩:=hs.ex;refine(_,(Ak (nG (Ff (D9 (Bx aL T.Ca.c T.Nw.h (Amq T) (e.As bB) T.Nw.b .nil Ay aH2))) aH3)
  (Ao (A3 (Zu (F5 e) bQ (CV (Ad (AE DA bF (wJ HB aW)) (mT (QC bI (JY (Bx aL T.Ca.c T.Kx.h (AdG T) (e.As bB) T.Kx.b .nil Ay (Ad aQ aH2))))))) Ar aCV)))),5)
 refine(73,j,hF.n1,16,p,m,g,x,a,2,hs,hx,λH1 s1=>aAC)
 cases r:Ct g x a with
 |false=>
  rw[r] at k;exact Au (k H1 s1)
 |true=>
  rw[r] at k;refine cD;have hle:a+x.length<=g.length:=by unfold Ct at r;simp at r;exact r.1
  obtain⟨u,v,z⟩:=hd;have fin:∀(mt:Bool)(B:Hp),FU m mt->tD B->mt=(Am||Ei m.cuts g i x a)->[mQ (mGf (a:Int) x),V.bl mt].length<=sizeLine/\∀C,B C=none->
   (λy B=>∃o,E8 B d y o/\Q (o.getD cB) B) (nC C) (Aa B C aUs):=by
   intro mt B Av s2 D;refine(qB 2,λC G=>?_);have s3:=Ab.Aa (o:= aUs) G;refine(_,E8.t (nP s3 s2 (qS v)) (Ss (by rw[Af,BT];congr 3)),5);rw[mC z Av];subst D;exact k _ aHY
  refine(0,d,2,mI (u,mH (qS v)),40,fT,8,16,5)
  cases Am with
  |true=>exact Au (fin true H1 aZ fA (by rfl))
  |false=>
   refine Az (73,qS j,hF.n2,40,p,m,g,i,x,a,2,mCb s1,hx,hle,λB s2=>?_);have I:m.cuts≠[]:=by
    rcases hm with hm|hm
    .cases hm
    exact hm
   exact fin _ B (mI I) s2 (by rfl)
def Es(m:Bi):List Bool:=if m.cuts=[] then[true] else[false,true]
theorem Su(m:Bi):aH4=lR.map V.bl:=by unfold Es;split<;>rfl
theorem Amu(h:FU m Am):Am∈Es m:=by
 unfold Es;rcases h with h|h
 .subst h;split<;>simp
 rw[gM];cases Am<;>simp
theorem VY(h:Am∈ lR):FU m Am:=by
 unfold Es at h;by_cases e:m.cuts=[]
 .rw[bU] at h;exact mH fE
 exact mI e
theorem AdH(m:Bi):lR.length<=2:=by unfold Es;split<;>simp
theorem Sv(m:Bi):pC lR[0]? m.cuts.isEmpty:=by
 unfold Es
 cases e:m.cuts with
 |nil=>simp
 |cons a r=>simp
theorem Sw(h:EO a x=EO b y):a=b/\x=y:=by
 injection h with h
 injection h with c d
 injection c with c
 injection d with d _
 injection d with d
 refine aS7
 cases x<;>cases y<;>first|rfl|(simp at d)
theorem AdI:∀l:aB,iH.sum=((AM l:Nat):Int)
 |[]=>rfl
 |a::r=>by rw[Asn,AtK,AdI r,C7];omega
def Px(m:Bi)(b:aB)(N:aDb)(i a:Nat)(Am:Bool)(w:Vf.Txt):Nat:=if aA5 then N aDW aJ5 else 0
def Jz(m:Bi)(b:aB)(N:aDb)(i a:Nat)(Am:Bool):Nat:=AM ((mJD i).map (Px m b N i a Am))
def Py(H:Hp)(d:Addr)(m:Bi)(n:Nat)(N:aDb):Prop:=∃b:bH,H d=vR b/\(∀a Am,a<n->FU m Am->mCa b=mW (N a Am:Nat))/\∀a Am,n<=a->mCa b=none
def Amv(t:Aw):Sp:=λvs H Q _=>∃(p:Addr)(m:Bi)(a:aB)(i:Nat)(d:Addr)(N:aDb),vs=[aS,aCW,dC]/\mB8 a/\m.Ok/\a.length<=100000/\i<m.feet.length/\mJC N/\
 ∀d' H',aO ->H d'=none->Py H' d' m a.length (Jz m a N i)->sQ d'
abbrev Amw:List Str:=aUt
theorem NL:AD aUt aMd (A0 Vh):=aG
theorem Amx(T:aD):A4 P w K mg base A9 3 t.Ny t.Acp aMd (Amv t):=by
 refine oW T.Ny.F.ok NL
 .obtain⟨p,m,b,i,d,N,rfl,_⟩:=h;rfl
 obtain⟨p,m,b,i,d,N,rfl,hs,hm,ac,ae,hd,k⟩:=h;obtain⟨dx,fs,f,c,sa,q,g,hF,af,h4,ag,h6⟩:=hs.ex;rw[Su] at h6;obtain⟨l,ah,ai,aj⟩:=af;have ak:aFT:=aA;have r:=aj i l[i] m.feet[i] (mJ ak) (mJ ae);have al:BX (nF l.map) (i:Int)=some (mF l[i]):=by apply AZ;rw[ArY,mJ ak];rfl
 have am:mJD i=m.feet[i]:=(vB Asv ae);obtain⟨an,ao,ap⟩:=mCX hm.Bz i ae;generalize aq:m.feet[i]=ws at r an ao ap am;generalize l[i]=ar at r al;refine(_,(Ak (rL NL.nd OU)
  (Ak (BS Asq rfl (mGg aC8) (oC 4 NL.nd) (Ao (BS Asq rfl (mB7 V8 aX) (oC 5 NL.nd) (Ao (Ls aBQ bF (CV (pS 4 5)) (mGh (Ad (Dk rfl NL.nd (qC (qQ aX aQ)) (qD ("way",6,) Amw Vh) (pE 6 NL.nd) cI (λ_ _ _ _ _=>(mNS (Ad aQ (Ad cC aUu))))) Ai)) rfl)))))
  (oL bF))),5)
 refine λD u=>(18,zQ u g,64,sa,0,uU (zQ u ag),0,34,34,5);have as:(((iv b).length:Nat):Int).toNat=b.length:=kI;rw[as];refine QI (lo:=0) (n:=b.length) (λz σ H1=>∃v1 v2 C,σ=[bP,aC0,mG d,mG D,v1,v2,C]/\ fS /\∃G:bH,H1 D=vR G/\G.length<=2*z/\ aUv /\∀a Am,z<=a->mCa G=none)
  (162,2,mP u,[],Af,9,λa Am h=>by omega,λa Am _=>rfl) ?_ ?_
 .rintro z σ H1 au ⟨v1,v2,C,rfl,s1,G,I,M,O,U⟩;rw[Int.zero_add];refine(18,qS g,33,T.RT,hF.Es,q,2,(_,qX s1 h6),5);refine AhL (K:=K) (a:=q) (xs:=lR.map V.bl) (λj σ H1=>∃v2 C,σ=[bP,aC0,mG d,mG D,mW (z:Nat),v2,C]/\ fS /\∃G:bH,H1 D=vR G/\G.length<=2*z+j/\ aUv /\(∀Am,Am∈ lR.take j->Bc G (EO z Am)=mNT mW)/\∀a Am,z+1<=a->mCa G=none)
   (v2,C,2,s1,G,I,4,O,λAm h=>by simp at h,λa Am h=>U a Am aA) (λj σ av _ (_,_,_,s2,_)=>qX s2 h6) ?_ ?_
  .rintro j y σ av hj ⟨aw,ax,rfl,s2,G,I,M,O,ay,U⟩;rw[ArY] at hj;obtain⟨Am,Y,rfl⟩:∃Am,lR[j]? =mB Am/\y= .bl Am:=by
    cases e:lR[j]? with
    |none=>rw[e] at hj;cases hj
    |some Am=>rw[e] at hj;exact(uA Am hj)
   refine(18,qA g,107,0,f,36,nD s2 ah,al,ar,2,(mCc s2 r),λL az=>?_);refine F6 (J:=qJ ar) ws.length az eC (λj v _=>∃x,ws[j]? =aY /\v= mE ((Px m b N i z Am x:Nat):Int)) iE
    (λk a0 hk s3=>(mNU r hk)) (λa0 s3=>(rO s3 aER)) ?_ ?_ G_ F7
   .rintro k' a0 y a1 a2 s3 a3 ⟨rfl,hy⟩ Kt a4;have a5:=qW s3 aER;rw[ArY,mJ a2] at a5;simp at a5;subst a5;have a6:zK (ws[k']).length:=by
     have:=uT ap a2;simp only[Eh,Bool.and_eq_true,decide_eq_true_eq] at this;omega
    have a7:=aAI;refine(2,xR (73,mC a7 g,hF.n3,16,40,p,m,b,i,ws[k'],z,Am,d,N,2,mCb a7,a6,VY (Asl Y),hd.same a7,λa8 s5=>?_));exact mV a4 s5 (ws[k'],mJ a2,2)
   intro a0 ys s3 hy a9 ba;have bb:ys=aUw.map V.int:=by
    apply AsJ;intro j;rw[ArY,ArY,ArY]
    cases e:ys[j]? with
    |none=>
     have:=iV;rw[lN];rfl
    |some v=>
     obtain⟨n,bc,bd⟩:=wI ba;rw[bc,bd];rfl
   refine(L,aUw,2,mGb bb,5);rw[AdI,show AM aUx=Jz m b N i z Am by unfold Jz;rw[am]];refine(40,qB 2,λbe bf=>?_);have s4:=Ab.Aa (o:= mCd (z:Nat) V.bl Am) bf;refine(D,0,HF.t (nP s4 s3 I) (Ss Af) (BA (by have:=AdH m;have:=(nS Y).1;omega)),3,qH aMS u,_,Af,by have:=Jo G (EO z Am) (mNT mQ);omega,51)
   .intro a mt ha hmt2;rw[MI,aUy];exact O a mt ha hmt2
   .intro mt hmt2;rw[MI];by_cases e:EO z mt=EO z Am
    .rw[bU,(Sw e).2]
    rw[bN];rw[AsA,Y] at hmt2;simp at hmt2;rcases hmt2 with hmt2|hmt2
    .exact ay mt hmt2
    exact nL (by rw[hmt2]) e
   intro a mt ha;rw[MI,aUy];exact U a mt ha
  rintro σ av ⟨aw,ax,rfl,s2,G,I,M,O,ay,U⟩;rw[ArX] at M;rw[ArX,AsC] at ay;refine(_,3,s2,G,I,by have:=AdH m;omega,λa mt ha Y=>?_,U);by_cases e:a=z
  .subst e;exact ay mt (Amu Y)
  exact O a mt aA Y
 rintro σ H1 ⟨v1,v2,C,rfl,s1,G,I,M,O,U⟩;exact(mNV (G,I,O,U))
def NW(m:Bi)(b:aB)(i a:Nat)(Am:Bool):Nat:=(mHP i).length
theorem AdJ(b:vY i)(a:Nat)(Am:Bool):Jz m c (NW m c (i+1)) i a Am=NW m c i a Am:=by unfold NW;rw[As8 b,XO];unfold Jz;rw[Asv,mJ b];rfl
theorem Amy(hm:m.Ok)(b:vY i)(a:Nat)(Am:Bool)(ha:c.length<=a):NW m c i a Am=0:=by
 unfold NW;rw[As8 b,AgH _ _ _ _ _ _ _ (λw hw=>?_) ha]
 .rfl
 have:=(uT hm.Bz b).2.2 w hw;simp only[Eh,Bool.and_eq_true,decide_eq_true_eq] at this;exact this.1.1
theorem AdK(m:Bi)(b:aB)(a:Nat)(Am:Bool):NW m b m.feet.length a Am=if a=b.length/\Am=true then 1 else 0:=by unfold NW;rw[AuI];unfold Bz;split<;>rfl
def IK(H:Hp)(d:Addr)(m:Bi)(a:aB)(i:Nat):Prop:=mJC (NW m a i)/\(i<m.feet.length->Py H d m a.length (NW m a i))
theorem Py.same(h:Py H d m n N)(s:aO):Py H' d m n N:=by obtain⟨g,i,j⟩:=h;exact(g,nH i,j)
theorem IK.same(h:IK H d m g i)(s:aO):IK H' d m g i:=(h.1.same s,λq=>(h.2 q).same s)
def J0(H:Hp)(L:Addr)(m:Bi)(a:aB)(i:Nat):Prop:=∃ds:aP,H L=pF ds.map/\ds.length=m.feet.length+1 - i/\∀k d,ds[k]? =mB d->d≠L/\IK H d m a (i+k)
theorem J0.same(h:J0 H L m g i)(s:aO):J0 H' L m g i:=by obtain⟨ds,j,q,u⟩:=h;exact(ds,nH j,q,λk d e=>((u k d e).1,(u k d e).2.same s))
theorem IK.ne(h:IK H d m g i)(n:d≠D):IK (nX D o) d m g i:=by
 refine(5,λq=>?_)
 .obtain⟨j,s,u⟩:=h.1;exact aUz
 obtain⟨j,s,u⟩:=h.2 q;exact aUz
def Amz(t:Aw):Sp:=λvs H Q _=>∃(p:Addr)(m:Bi)(a:aB),vs=[aS]/\mB8 a/\m.Ok/\a.length<=100000/\
 ∀L H',aO ->H L=none->J0 H' L m a 0->sQ L
theorem VZ:AD (sM "counts" "foot") cK (A0 AaM):=aG
theorem Am0(T:aD):A4 P w K mg base A9 4 t.Nz t.Acq cK (Amz t):=by
 refine mBZ T.Nz.F.ok VZ
 .obtain⟨p,m,g,rfl,_⟩:=h;rfl
 obtain⟨p,m,g,rfl,hs,hm,ab,k⟩:=h;obtain⟨dx,fs,f,c,sa,q,l,hF,ac,h4,ae,h6⟩:=hs.ex;obtain⟨af,ag,n,ah⟩:=ac;have ai:=hm.KY;have aj:=hm.Qr;refine(_,(Ak (tE VZ.nd (By (mT (Amj (F5 b) (mCe aC8 Dw) Ar))))
  (Ak (rJ (Ajs rfl T.L_ (Ad (zN aC8) (uV fB))) (oC 2 VZ.nd) (Ao (Cu (Dz (K:=K) rfl As3 F.slot_list_insert F.type_list_insert Amf aQ (Ad Ar (mT (Bx aL T.Ca.c T.Ny.h (Amx T) dR T.Ny.b .nil Ay (oV aW aMT))))))))
  aCZ)),5)
 intro r u;have s0:Ab H (nX r iD):=mP u;refine(18,mC s0 l,64,sa,0,wN s0 ae,qB 2,λv x=>?_);rw[ArX];refine(by rw[Ah (λe=>by rw[e,Af] at x;cases x),Af],EO g.length true,v,2,Ss Af,90,λL y=>?_);have s2:Ab H aUA:=qH (oR s0 x) u;have z:L≠r:=λe=>(by rw[e,Af] at y;cases y);have B:nA H L:=by
  cases e:H L with
  |none=>rfl
  |some o=>rw[qA e] at y;cases y
 generalize ak:aUA=al at s2 y;have s3:Ab H (nE al L [mF r]):=qH s2 B;refine(18,rY l,107,f,0,wN s3 ag,8,16,(((nF af.map).length:Nat):Int) - 1,-1,-1,m.feet.length,2,5,5)
 .rw[ArX,n];have:=Rq.neg (i:=(m.feet.length:Int) - 1) (j:= -1) aA aA bB bB;rw[show((m.feet.length:Int) - 1 - -1).toNat=m.feet.length by omega] at this;exact this
 rw[ArX,n];refine Ajt (λj σ H1=>∃v1,σ=[bP,mG L,v1]/\ fS /\j<=m.feet.length/\J0 H1 L m g (m.feet.length - j))
  (58,2,s3,aR,[r],Af,by show 1=_;omega,λk d hk=>?_) ?_ ?_
 .cases k with
  |succ k=>simp at hk
  |zero=>
   simp at hk;subst hk;refine(Asr z,IK.ne ((_,by rw[<-ak,Af],λa Am Av=>?_),λq=>by omega) (Asr z));rw[show m.feet.length - 0+0=m.feet.length by omega,AdK];by_cases e:a=g.length/\Am=true
   .rw[bU,FO (pW e.1 e.2)];rfl
   rw[bN,FP (λh=>e (by have:=Sw h;exact(this.1.symm,this.2.symm))),AiW];rfl
 .rintro j σ H1 hj ⟨v1,rfl,s4,_,ds,C,am,D⟩;have hlen:0<ds.length:=aA;have an:aUB:=by
   refine mB5 ?_;rw[ArY,mJ hlen];rfl
  have ao:(m.feet.length:Int) - 1+((j:Nat):Int)* -1=((m.feet.length - 1 - j:Nat):Int):=aA;rw[ao];have ap:Mf H1 ds[0] (NW m g (m.feet.length - 1 - j+1)) (FU m):=by have:=(D 0 ds[0] (mJ hlen)).2.1;rw[show m.feet.length - j+0=m.feet.length - 1 - j+1 by omega] at this;exact this
  refine(0,pL C,73,vJ l,hF.n4,16,147,an,p,m,g,m.feet.length - 1 - j,ds[0],0,mCb s4,hm,ab,4,ap,λd' aq s5 G ar=>(L,aES,mF d',29,vQ C,fU,0,vO s4 s5 B,hj,d'::ds,by rw[Af];rfl,by rw[As1];omega,λk d hk=>?_));have I:d'≠L:=λe=>(by rw[e,C] at G;cases G)
  cases k with
  |zero=>
   simp at hk;subst hk;refine(I,IK.ne ?_ I);have J:m.feet.length - 1 - j<m.feet.length:=aA;rw[show m.feet.length - (j+1)+0=m.feet.length - 1 - j by omega];obtain⟨M,N,O,e3⟩:=ar;refine((M,N,λa Am Av=>?_),λ_=>(M,N,λa Am ha Av=>?_,e3))
   .by_cases ha:a<g.length
    .rw[O a Am ha Av,AdJ J];rfl
    rw[e3 a Am aA,Amy hm J a Am aA];rfl
   rw[O a Am ha Av,AdJ J]
  |succ k=>
   rw[AtM] at hk;have U:=D k d hk;refine(U.1,IK.ne ?_ U.1);have:=U.2.same s5;rw[show m.feet.length - j+k=m.feet.length - (j+1)+(k+1) by omega] at this;exact this
 rintro σ H1 ⟨v1,rfl,s4,_,Y⟩;rw[At9] at Y;exact(0,k L H1 s4 B Y)
structure Pz(t:Aw)(H:Hp)(p:Addr)(m:Bi)(sy:aB):Prop where
 at_:Jy t H p m sy
 ex:∃dx fs L,H p=pI t.Dq fs/\nY ("counts":Str)=mD3 L/\nY ("total":Str)=oZ mQ (NW m sy 0 0 m.cuts.isEmpty:Nat)/\nY ("way_numbered":Str)=none/\J0 H L m sy 0
theorem Pz.same(h:Pz t H p m g)(s:aO):Pz t H' p m g:=by obtain⟨h0,dx,fs,L,i,j,q,h4,u⟩:=h;exact(h0.same s,dx,fs,L,nH i,j,q,h4,u.same s)
theorem J0.AdL(h:J0 H L m g i)(hp:H p=hJ):J0 (qV o) L m g i:=by obtain⟨ds,j,q,s⟩:=h;refine(ds,by rw[Ah (mBU j hp)];exact j,q,λk d e=>(oH (s k d e).1));obtain⟨u,v,_⟩:=(s k d e).2.1;exact(s k d e).2.ne (mBU v hp)
def Am1(t:Aw):Sp:=λvs H Q _=>∃(p dx mp sa:Addr)(m:Bi)(a:aB)(G:Hp),vs=[aS,mF mp,aAJ]/\H p=rM t.Dq/\G p=none/\Ab G H/\mCf G/\m.Ok/\G sa=nW a/\1<=a.length/\a.length<=100000/\
 ∀H',mGi G->Pz t H' p m a-> cU
theorem Am2:AD aHv aHv (A0 AaI):=aG
theorem AdM(T:aD):A4 P w K mg base A9 5 t.LP t.Acl aHv (Am1 t):=by
 refine T.LP.F.ok Am2 cM aMU
 .obtain⟨p,dx,mp,sa,m,g,G,rfl,_⟩:=h;rfl
 obtain⟨p,dx,mp,sa,m,g,G,rfl,hp,i,l,hm,n,u,ab,ac,k⟩:=h;obtain⟨v,f,c,x,ae,y⟩:=hm;have z:∀o,Ab G (qV o):=λo=>qH l i;obtain⟨pc,af,B,ag⟩:=id y;refine(_,(Ak aH5
  (Ak aH5
  (Ak lQ
  (Ak (oF (Ie (qR aX) (CV (uV Dw)) (CV (mT Dw))))
  (Ak (oF (GY aL T.Ca.c T.Nz.h (Am0 T) eF T.Nz.b .nil Ay))
  (Ao (oF (Lr (F5 d) (qQ aX Ar) (CV (Ad Ar (mT (sN aX Ar)))) gT)))))))),5)
 refine(176,v,3,mC l x,105,2,97,hp,33,T.RS,bB,176,v,3,rW z x,106,2,97,Af,33,T.Vx,189);rw[B1];refine(mAW T.Ca.c T.NH 2);rw[B1];refine(17,Af,33,T.Vx,2,_,mDX (rW z af),5);have ah:(!(nF pc.map).isEmpty)= !m.cuts.isEmpty:=by
  cases pc with
  |nil=>rw[Av9 B.symm];rfl
  |cons a r=>
   cases e:m.cuts with
   |nil=>rw[e] at B;cases B
   |cons b ai=>rfl
 rw[ah];by_cases C:m.cuts=[]
 case' pos=>
  rw[show aUC=false by rw[C];rfl];refine Az (mDR 1);have aj:[V.bl true]=aH4:=(by rw[mK C])
 case' neg=>
  rw[show aUC=true by cases e:m.cuts with|nil=>exact nL e C|cons a r=>rfl];refine Au (mDR 2);have aj:[V.bl false,V.bl true]=aH4:=(by rw[mM C])
 all_goals
  rw[aj];have D:q≠p:=λe=>(by rw[e,Af] at hq;cases hq);refine(97,by rw[nQ D,Af],33,T.RT,(qZ 3),5);generalize I:nN (Aa (qV _) q _) _=J;have M:J p=some (nB t.Dq [("feet",iW,),("cuts",mF c,),("syllables",aAJ,),("met_values",mF q,)]):=(by rw[<-I,Af];rfl);have ak:oB J q (.Al aH4):=(by rw[<-I,Ah D,Af]);have s4:Ab G J:=(by rw[<-I];exact qH (oR (z _) hq) i);refine(193,M,2,p,m,g,2,(19,f,c,sa,q,M,aUD,mD4 s4,y.same s4,vJ u,ak),n,ac,λL N s5 al am=>?_);have an:=vQ M;refine(97,an,33,T.RU,(qZ 4),5);have ao:(aMV) q=some (.Al (lR.map V.bl)):=(by rw[Ah D,<-Su];exact vQ ak);have ap:=am.AdL (o:= aMW) an;have O:wO N aMW:=Af;have aq:Ab G aMV:=vO s4 s5 i;generalize aMV=ar at*;obtain⟨ds,as,hd2,au⟩:=id ap;have av:=n.Qr;have aw:0<ds.length:=aA;have ax:aUB:=by refine mB5 ?_;rw[ArY,mJ aw];rfl
  have ay:aUE:=by refine mB5 ?_;rw[ArY,Sv];rfl
  obtain⟨az,a0,a1,a2⟩:=(au 0 ds[0] (mJ aw)).2.2 aA;refine(17,O,33,T.RU,2,L,36,mN as,ax,17,O,33,T.RT,2,q,36,nO ao,ay,qB 2,λa3 a4=>?_);have U:=Ab.Aa (o:= aUF) a4;have hg:=E8.t (mC U a0) (Ss (a:=0) (Am:=m.cuts.isEmpty) (q:=a3) Af);rw[a1 0 _ aA aUG] at hg;refine(3,hg,97,mC U O,33,T.Vy,aDc,5);have Y:Ab G (nN (Aa ar a3 aUF) (nB t.Dq (Cn "total" (mQ (NW m g (0+0) 0 m.cuts.isEmpty:Nat)) aUH))):=vO aq U i;refine k _ Y ((19,f,c,sa,q,Af,aUD,mD4 Y,y.same Y,qY u,by rw[Ah D,Su];exact mC U ao),19,L,Af,29,2,(ap.same U).AdL (mC U O))
def Am3(t:Aw):Sp:=λvs H Q _=>∃(p:Addr)(m:Bi)(a:aB)(k:Nat),vs=[aS,mE (k:Int)]/\Pz t H p m a/\m.Ok/\a.length<=100000/\k<mJE a/\
 ∀D H' tk,aO ->H D=none-> dQ=nW tk->(mAg a)[k]? =mB tk-> eS
def muC(n:Nat)(σ:St)(_:Hp):Nat:=match σ[7]? with|some (some (V.int z))=>n - z.toNat|_=>0
theorem Am5(g:α->Nat)(l:cL)(c:Nat)(x:α)(h:l[c]? =aY):AM ((zC (c+1)).map g)=AM ((zC c).map g)+g x:=by
 rw[AsA,h,As7];have:∀(u v:aB),AM (u++v)=AM u+AM v:=by
  intro u v
  induction u with
  |nil=>simp[AM]
  |cons a r b=>rw[At8,C7,C7,b];omega
 rw[this];congr 1;simp[AM]
theorem G4:AD ["self","k","taken","at","met","foot","ways","choice","count"] (qP "k") (A0 AaN):=aG
theorem Am6(T:aD):A4 P w K mg base A9 3 t.N0 t.Acr (qP "k") (Am3 t):=by
 refine oW T.N0.F.ok G4
 .obtain⟨p,m,b,ac,rfl,_⟩:=h;rfl
 obtain⟨p,m,b,ac,rfl,hf,hm,ae,af,k⟩:=h;have hs:=hf.at_;obtain⟨dx,fs,f,c,sa,q,d,hF,ag,h4,ah,h6⟩:=hs.ex;rw[Su] at h6;obtain⟨ai,aj,L,g1,ak,_,_,al⟩:=hf.ex;rw[d] at g1;injection g1 with g1
 injection g1 with _ _ g1
 subst g1;obtain⟨am,an,ao,ap⟩:=ag;obtain⟨ds,aq,hd2,ar⟩:=al;have as:aUE:=by refine mB5 ?_;rw[ArY,Sv];rfl
 refine(_,(Ak (pY G4.nd eU)
  (Ak (rL G4.nd Ar)
  (Ak (qE G4.nd (sN aX Ar))
  (Ak (BS Asq rfl aMX (tF 5 G4.nd 6) (Ak (mJF G4.nd Ar)
  (Ak (mNW aMY)
  (Ak (Ka Asq (pB QN aQ kJ) (Ak (Hw (i:=1) G4.nd rfl eG kJ Y0)
  (Ak (mJG 7 G4.nd Jn)
  (Ao (mNW aMZ)))))
  (Ak (Cu (mDL (mT gJ)))
  (Ak (qE G4.nd (QC bI (JY (Bx aL T.Ca.c T.Kx.h (AdG T) bR T.Kx.b .nil Ay (Ad bQ (uC aMZ bF))))))
  (Ao (Hw (i:=3) G4.nd rfl eG (mGj HB (mT aMZ)) Jn))))))))
  aBN)))),5)
 refine(aR,λD au=>?_);have s0:Ab H aHU:=mP au;refine(18,mC s0 d,33,T.RT,hF.Es,q,36,qX s0 h6,as,18,mC s0 d,107,f,0,nD s0 an,5);refine Fn (J:=MM K f) m.feet.length (λi σ H1=>∃(a:Nat)(Am:Bool)(g:Nat)(tk:aB)(l v6 u v:bO),σ=[bP,mW (g:Int),mG D,aBP,yR Am,l,v6,u,v]/\ fS /\H1 D=nW tk/\tk.length=i/\FU m Am/\g<NW m b i a Am/\
  (mAg b)[ac]? =((mHP i)[g]?).map (tk++·))
  (60,m.cuts.isEmpty,ac,[],14,14,2,s0,88,aUG,af,9)
  (λi σ H1 av (_,_,_,_,_,_,_,_,_,s1,_)=>(sO s1 an (by omega:i<am.length)))
  (λσ H1 (_,_,_,_,_,_,_,_,_,s1,_)=>(rO s1 an)) ?_ ?_
 .rintro i σ H1 y aw av ⟨a,Am,g,tk,l,v6,u,v,rfl,s1,ax,ay,Av,z,hw⟩ ⟨az,x,rfl,a0,rfl,hx⟩;have a1:i<am.length:=aA;have hx':=xV hx s1 an;rw[ArY,mJ a1] at hx';simp at hx';subst hx';have B:=ap i am[i] m.feet[i] (mJ a1) (mJ av);have a2:=As8 av;obtain⟨a3,a4,a5⟩:=mCX hm.Bz i av;have a6:i+1<ds.length:=aA;have a7:=(ar (i+1) ds[i+1] (mJ a6)).2.1;rw[AsZ] at a7;have a8:BX aES ((i:Int)+1)=some (mF ds[i+1]):=by
   rw[show(i:Int)+1=((i+1:Nat):Int) by omega];apply AZ;rw[ArY,mJ a6];rfl
  generalize m.feet[i]=ws at*;generalize am[i]=C at*;generalize ds[i+1]=dd at*;have a9:∀w∈ws,w.length<=1000:=λw hw=>by have:=a5 w hw;simp only[Eh,Bool.and_eq_true,decide_eq_true_eq] at this;omega
  have s2:Ab H (mJH az C):=oR s1 a0;have ba:=Ab.Aa (o:= mCd (i:Nat) nC C) a0 _ _ ax;refine(mGk az Af);generalize (mJH az C)=aw at*;have G:∀(j:Nat)(hj:mGl j),BX (sv ws) (j:Int)=some (oK ws[j]):=λj hj=>by apply AZ;rw[ArY,cW];rfl
  rw[a2] at hw;have bb:g<AM (ws.map (mGm cw aAK)):=by rw[<-XO,<-a2];exact z
  refine(73,qA d,hF.n3,16,C,36,nD s2 B,G 0 a4,16,18,qA d,163,nD s2 aq,a8,p,m,b,i,ws[0],a,Am,dd,0,mCb s2,uT a9 a4,Av,a7.same s2,λbc s3=>?_);refine Yy (λσ I=>∃(M N:Nat)(bd be:Int)(hc:mGl M),bd=M/\be=N/\σ=[bP,mW be,mG D,aBP,yR Am,aMP,mG C,mW bd,aUI]/\Ab aw I/\N+aUJ=g) (muC ws.length)
   (60,g,19,a4,29,2,s3,by simp[AM]) ?_ ?_
  .rintro σ I ⟨M,N,bd,be,hc,rfl,rfl,rfl,s4,he⟩;have O:=mX s2 s4;refine(16,55);have bf:=Am5 (mGm cw aAK) ws M ws[M] (mJ hc);by_cases hge:aUK <=N
   .rw[mU aA];have bg:M+1<ws.length:=by
     rcases Atq (M+1) ws.length with h|h
     .exact h
     rw[AsW h] at bf;omega
    refine Au aT4;refine(0,8,5);have bh:BX (sv ws) ((M:Int)+1)=some (oK ws[M+1]):=by rw[show(M:Int)+1=((M+1:Nat):Int) by omega];exact G (M+1) bg
    refine(73,mC O d,hF.n3,40,C,36,nD O B,bh,16,18,mC O d,163,nD O aq,a8,p,m,b,i,ws[M+1],a,Am,dd,0,mCb O,uT a9 bg,Av,a7.same O,λbi s5=>((M+1,N - aUK,19,bg,4,4,2,mX s4 s5,4),5));show ws.length - ((M:Int)+1).toNat<ws.length - ((M:Nat):Int).toNat;omega
   rw[aBr];refine Az (0,mH (2,_,nD s4 ba),0,D,8,vJ ba,BA (by rw[ArX];have:=hm.KY;omega),5);have s5:Ab H aM0:=qH O au;have bj:zM (aM0) D (tk++[M]):=(pD Af);generalize aM0=bi at*;have U:N<cw m.cuts b aAK i a Am ws[M]:=aA;have bk:mAd ws[M]=true:=by
    unfold cw at U;split at U
    .assumption
    omega
   have hle:a+(ws[M]).length<=b.length:=by unfold Ct at bk;simp at bk;exact bk.1
   have bm:=AgG m.cuts b ws aAK i a Am M N ws[M] (mJ hc) U;rw[show aUJ+N=g by omega] at bm;rw[bm] at hw;have bn:pX (mk ws[M]).length:=AL (by rw[BT];have:=uT a9 hc;omega);have fin:∀(mt:Bool)(Y:Hp),FU m mt->Ab bi Y->mt=(Am||mBp ws[M])->
    ∃(bo:Nat)(bp:Bool)(bq:Nat)(br:aB)(l v6 u v:bO),[mD3 p,mW (N:Int),mG D,mW (mGf (a:Int) ws[M]),yR mt,aMP,mG C,mW (M:Int),aUI]=[bP,mW (bq:Int),mG D,mW (bo:Int),yR bp,l,v6,u,v]/\Ab H Y/\Y D=nW br/\br.length=i+1/\FU m bp/\bq<NW m b (i+1) bo bp/\
     (mAg b)[ac]? =((mHQ bo bp)[bq]?).map (br++·):=by
    intro mt Y bs bt bu;refine(a+(ws[M]).length,mt,N,tk++[M],48,by rw[BT];congr 5,mX s5 bt,mC bt bj,by rw[Asi,ay];rfl,bs,5,5)
    .unfold cw at U;rw[mK bk] at U;rw[bu];exact U
    rw[hw,bu,Option.map_map];congr 1;funext r;simp
   refine aAD
   cases Am with
   |true=>exact Au (122,bn,8,fin true bi aZ fA rfl)
   |false=>
    refine Az (73,vQ d,hF.n2,122,p,m,b,i,ws[M],a,2,mCb s5,uT a9 hc,hle,λY bt=>?_);refine(40,C,36,nD (mX s5 bt) B,G M hc,0,bn,8,fin _ Y ?_ bt rfl);rcases Av with h|h
    .cases h
    exact mI h
  rintro σ I bv bw bx ⟨bz,b0,b1,b2,n1,n2,e3,b3,b4,b5,hq⟩;exact(bz,b0,b1,b2,n1,n2,e3,b3,b4,b5,mC bx hq)
 rintro σ H1 ⟨a,Am,g,tk,l,v6,u,v,rfl,s1,ax,ay,Av,z,hw⟩;refine(0,k D H1 tk s1 au ax ?_);rw[AdK] at z;rw[hw,AuI];unfold Bz;by_cases e:a=b.length/\Am=true
 .rw[bU] at z⊢;rw[show g=0 by omega];simp
 rw[bN] at z;omega
theorem HI(l:aB):iv l=iH.map V.int:=by simp
theorem Mg(l:aB):iH.map Int.toNat=l:=by
 rw[AsB]
 conv=>rhs;rw[<-mJm l]
 apply AsU;intro n _;simp
theorem AdN(n:Nat):aM1=aUL:=by
 by_cases h:n<128
 .exact(by decide+kernel:∀n:Nat,n<128-> aM1=aUL) n h
 have hc:∀c∈K8,c<128:=bB;have a:pG aM1:=by grind
 rw[a];have b:pV Kgz1.isCapital n:=by
  cases e:Kgz1.isCapital n with
  |false=>rfl
  |true=>
   have:n<128:=by simp[Kgz1.isCapital] at e;omega
   omega
 unfold Kgz1.isLetter;grind
theorem Am7(l:aB):(mJy iH.all K8.any)=Kgz1.okLine l:=by rw[Atw];apply AwO rfl;intro n;exact AdN n
theorem V_(l:aB):Md iH=if kK=true then .Ax else .str aAB:=by unfold Md K6;rw[Am7,Mg,ArX];unfold Kgz1.wrong;grind
theorem Sx(h:pG kK):mJn l=true/\1<=l.length/\l.length<=255:=by unfold Kgz1.wrong at h;grind
theorem AdO(l:aB):dX.length=aBR.length:=by rw[O1,ArX]
theorem Sy(l:aB):aAL= !decide (1<= kL.length/\ kL.length<=64):=by
 rw[ArX,AdO];unfold Kgz1.bad
 cases e:aBR with
 |nil=>rfl
 |cons a r=>
  grind
theorem Wb(l:aB):decide (1<= kL.length/\ kL.length<=64)= !Kgz1.bad aBR:=by rw[Sy,Bool.not_not]
theorem Wc(n:Nat)(l:aB)(h:l.length<=n):mCg n l=l++List.replicate aUM 0:=by unfold Kgz1.padded;apply AsJ;grind
theorem AdP(x:α):∀n:Nat,(oX n [x]).flatten=oX n x
 |0=>rfl
 |n+1=>by rw[AtC,Aub,AdP x n];rfl
def IL(a:Kgz1.Ans):List V:= mE a.value::iv a.out
def Am8:Sp:=λvs H Q _=>∃(a:Addr)(l:aB)(n:Nat),vs=[aI,lP]/\H a=nW l/\l.length<=n/\n<=1000/\∀D H',aO ->H D=none-> dQ=nW (mCg n l)-> eS
theorem Am9:AD aHg aHg (A0 AaS):=aG
theorem AdQ(T:aD):A4 P w K mg base A9 1 t.padded t.Acx aHg Am8:=by
 refine vL T.padded.F.ok Am9
 .obtain⟨a,l,n,rfl,_⟩:=h;rfl
 obtain⟨a,l,n,rfl,ha,d,e,k⟩:=h;refine(_,(Ao (A3 (vN aL (mDU (AE FI aQ aAE))))),0,90,eH);have s1:=vP gI hq;refine(16,a,0,wN s1 ha,8,q,8,Af,5);rw[ArX];have f:((n:Int) - ((l.length:Nat):Int)).toNat=n - l.length:=aA;rw[f,AdP];refine(4,4,AL (by show 1*_<=_;omega),λg i=>?_);have s2:=vP (oX aUM iG) i;refine(a,g,8,nP s2 s1 ha,Af,AL (mBH AuB),λD j=>?_);refine k D _ (mX s1 (oR s2 j)) (s1.free (s2.free j)) ?_;rw[Af,Wc n l d];simp
def AmA(K:PySem.W.Frag):Sp:=λvs H Q _=>∃(a:Addr)(l:aB),vs=cP /\xX l/\∀D H',aO ->H D=none-> dQ=nV (IL aET)-> eS
theorem We:AD ["line","text","syllables"] ["line"] (A0 AaT):=aG
theorem AmB(T:aD):A4 P w K mg base A9 8 t.speak t.Acy ["line"] (AmA K):=by
 refine vL T.speak.F.ok We
 .obtain⟨a,l,rfl,_⟩:=h;rfl
 obtain⟨a,l,rfl,d,k⟩:=h;obtain⟨e,f,g⟩:=T.V4;obtain⟨j,m,p⟩:=T.AcL;obtain⟨r,u,x⟩:=T.AcH;refine(_,(Ak (tE We.nd (mJI aBM))
  (Ak (nG (mAU aQ) (mCh f g))
  (Ak (pY We.nd (mJJ dU))
  (Ak (nG (Ff (D9 (Bb (Adn T) eE rfl T.Ip.m T.Ip.F.kp T.Ip.b .nil Ay kH))) (mCh m p))
  (Ao (A3 (vN (tZ aC5) (mNX (oV aW (nT u x)))))))))),5)
 refine(77,iH,2,by rw[<-HI];exact d,λH1 s1=>?_);generalize y:Md iH=v;rw[V_] at y
 cases hw:kK with
 |true=>
  rw[hw,bE] at y;subst y;have z:aET=Kgz1.say (-22):=(by show(if _ then _ else _)=_;rw[hw,bE]);rw[z] at k;refine(0,30,Au (mNY s1 s1.free))
 |false=>
  rw[hw,bS] at y;subst y;obtain⟨Av,C,G⟩:=Sx hw;refine(mCi (0,42,λS I s2 J L=>?_));rw[Fo] at L;refine(0,S,0,mN L,0,5);have hb:=Sy l;have M:=lS
  cases N:aAL with
  |true=>
   rw[N] at hb;rw[Wb l,N];have z:aET=Kgz1.say (-71):=by show aUN=_;rw[hw,bS,N,bE]
   rw[z] at k;refine Au (mNY M M.free)
  |false=>
   rw[N] at hb;rw[Wb l,N];have hlen:dX.length<=64:=by have:decide (1<= kL.length/\ kL.length<=64)=true:=cF;have:=Aut this;rw[ArX] at this;exact this.2
   have z:aET=((aBR.length:Nat),mCg 64 (aBR.map Kgz1.number)):=by show aUN=_;rw[hw,bS,N,bS]
   rw[z,<-O1,<-AdO] at k;refine Az (0,S,0,uU L,90,eH);rw[ArX];have s3:=vP [mQ (dX.length:Nat)] hq;refine(0,S,dX,(64),2,rY L,hlen,21,λO U s4 aa Y=>(q,O,8,vJ Af,Y,mNZ 64 hlen,λD B=>?_));exact k D _ (pR M s3 (oR s4 B)) (M.free (s3.free (s4.free B))) Af
def FV(o:Bool)(l:aB):Int:=if o then -22 else if kK=true then -23 else if aAL=true then -71 else 0
def HJ(l:aB):V:=if kK=true then .Ax else oK l
def AmC:Sp:=λvs H Q _=>∃(a:V)(o:Bool)(l:aB),vs=[a,HJ l]/\((o=true/\a= .Ax)\/(o=false/\∃p,a= aS))/\∀H',aO ->oJ (mE (FV o l))
theorem AmD:AD aHh aHh (A0 AaU):=aG
theorem AdR(T:aD):A4 P w K mg base A9 8 t.IB t.Acz aHh AmC:=by
 refine qI T.IB.F.ok AmD
 .obtain⟨c,o,l,rfl,_⟩:=h;rfl
 obtain⟨c,o,l,rfl,d,k⟩:=h;obtain⟨e,f,g⟩:=T.V4;obtain⟨i,j,m⟩:=T.AcK;obtain⟨n,q,r⟩:=T.AcL;refine(_,(Ak (nG (mAU aL) (zH f g))
  (Ak (nG (mAU aQ) (zH j m))
  (Ak (nG (Ff (D9 (Bb (Adn T) dR rfl T.Ip.m T.Ip.F.kp T.Ip.b .nil Ay (mT (Bb (Sl T) dR rfl T.Fk.m T.Fk.F.kp T.Fk.b .nil Ay dU))))) (zH q r))
  aH3))),5)
 unfold FV at k;rcases d with⟨rfl,rfl⟩|⟨rfl,p,rfl⟩
 .exact(0,30,mB6 H)
 refine aH0;rw[bS] at k
 cases hw:kK with
 |true=>
  have u:HJ l= .Ax:=(mGn bE);rw[hw,bE] at k;refine iF;rw[u];exact mB6 H
 |false=>
  have u:aM2:=(mGn bS);rw[hw,bS] at k;obtain⟨Av,v,x⟩:=Sx hw;refine iF;rw[u];refine Az (0,42,λS y s2 z B=>?_);rw[Fo] at B;refine(S,0,mN B,0,5);rw[Wb l]
  cases C:aAL with
  |true=>rw[C,bE] at k;exact Au (k y s2)
  |false=>rw[C,bS] at k;exact Az (k y s2)
theorem AmE(m:Bi)(l:aB):mJE dX=aH6.length:=by rw[T4,<-O1];rfl
def AmF(K:PySem.W.Frag):Sp:=λvs H Q _=>∃(a b:Addr)(c l:aB),vs=aAA /\xX c/\mGo b l/\c.length<=30000/\∀D H',aO ->H D=none-> dQ=nV (IL (mGp c.length c))-> eS
theorem Sz:AD ["measure_numbers","line","measure","text","refusal"] aLX (A0 AaV):=aG
theorem AmG(T:aD):A4 P w K mg base A9 9 t.scan t.Ac0 aLX (AmF K):=by
 refine mDQ T.scan.F.ok Sz
 .obtain⟨a,b,d,l,rfl,_⟩:=h;rfl
 obtain⟨a,b,d,l,rfl,e,f,g,k⟩:=h;obtain⟨ab,j,o⟩:=T.Aks;refine(_,(Ak (pY Sz.nd (Bb (VW T) eE rfl T.Gz.m T.Gz.F.kp T.Gz.b .nil Ay aBM))
  (Ak (rL Sz.nd (mJI dU))
  (Ak (qE Sz.nd (mN0 aH2))
  (Ak (mN1 bI)
  (Ao (A3 (By (mT (mJK (Ad (mJL (mN2 (uC aW (mJJ aHE)))) (mT (nT j o)))))))))))),5)
 refine(77,aH7,2,by rw[<-HI];exact e,by rw[ArX];exact g,λn q=>?_,λr H1 s1 u=>?_)
 .obtain⟨x,_,rfl⟩:=pA q;omega
 rw[Mg] at u;refine(0,b,iH,2,by rw[<-HI];exact aDd,λac s2=>?_);rw[show Md iH=HJ l from V_ l];have v:=T1 d;have y:=lS
 cases hm:Je d with
 |none=>
  rw[hm] at u v;have z:mGp d.length d=Kgz1.say (-22):=(mN3 v);rw[z] at k;refine(16,r,true,l,2,xB rfl u,λB s3=>?_);have C:=mX y s3;exact aM3
 |some m=>
  rw[hm] at u v;obtain⟨mp,rfl,I⟩:=u;have J:mGp d.length d=if kK=true then mD5 23 else if aAL=true then mD5 71 else Kgz1.say (min Kgz1.MOST aH6.length:Nat):=by show aM4=_;rw[v];rfl
  rw[J] at k;refine(164,λB s3=>?_);have C:=mX y s3
  cases hw:kK with
  |true=>
   rw[hw,bE] at k;rw[show aDe= -23 by unfold FV;rw[bS,hw,bE]];exact aM3
  |false=>
   rw[hw,bS] at k;obtain⟨Av,ae,af⟩:=Sx hw
   cases M:aAL with
   |true=>
    rw[M,bE] at k;rw[show aDe= -71 by unfold FV;rw[bS,hw,bS,M,bE]];exact aM3
   |false=>
    rw[M,bS] at k;rw[show aDe=0 by unfold FV;rw[bS,hw,bS,M,bS]];have hb:=Sy l;rw[M] at hb;have hlen:aUP:=by have:decide (1<= kL.length/\ kL.length<=64)=true:=cF;have:=Aut this;rw[ArX] at this;exact this
    have N:aM2:=(mGn bS);refine aUQ;rw[N];refine(42,λS O s4 ag U=>?_);rw[Fo] at U;intro p dx hp ah ai;refine(p,dx,mp,S,m,dX,O,190,hp,(mAO ah ai),I.same aMS,T2 hm,U,hlen.1,4,λaj s5 hF=>fW);obtain⟨_,ak,fs,L,g1,_,g3,_,_⟩:=hF;have Y:=pR C s4 s5;refine(p,_,ak,177,3,90,λD G=>k D _ (oR Y G) (Y.free G) ?_);rw[Af,AmE];congr 3;congr 1;show(if(1000000:Int)<_ then(1000000:Int) else _)=((min 1000000 _:Nat):Int);split<;>omega
theorem AmH(m:Bi)(l:aB)(tk:aB)(k:Nat)(hm:m.Ok)(h:(mAg dX)[k]? =mB tk):tk.length<=16:=by
 have key:∀(r:jJ)(i a:Nat)(Am:Bool)(tk:aB),tk∈Bz m.cuts dX r i a Am->tk.length=r.length:=by
  intro r
  induction r with
  |nil=>
   intro i a Am tk h;unfold Bz at h;grind
  |cons f r b=>
   intro i a Am tk h;simp only[Bz] at h;grind
 rw[key _ _ _ _ _ (Asl h)];exact hm.KY
def AmI(K:PySem.W.Frag):Sp:=λvs H Q _=>∃(c:Nat)(a b:Addr)(d l:aB),vs=[aBS,aI,bW]/\xX d/\mGo b l/\d.length<=30000/\∀D H',aO ->H D=none-> dQ=nV (IL (mJM d.length d c))-> eS
theorem P3:AD ["k","measure_numbers","line","measure","text","refusal","scansion"] aLY (A0 AaW):=aG
theorem AmJ(T:aD):A4 P w K mg base A9 9 t.way t.Ac1 aLY (AmI K):=by
 refine mDQ T.way.F.ok P3
 .obtain⟨d,a,b,e,l,rfl,_⟩:=h;rfl
 obtain⟨d,a,b,e,l,rfl,f,g,ab,k⟩:=h;obtain⟨ac,ae,af⟩:=T.Akr;obtain⟨ag,ah,ai⟩:=T.AcI;refine(_,(Ak (rL P3.nd (mN4 eE))
  (Ak (qE P3.nd (mJI kH))
  (Ak (sA P3.nd (mN0 (pS 3 4)))
  (Ak (mN1 bQ)
  (Ak (tG P3.nd (mN2 (uC bF (mJJ lO))))
  (Ak (nG (pB DB aDf aL) (mCh ae af))
  (Ao (A3 (vN aHS (mNX (Ad (Bx cC T.Ca.c T.N0.h (Am6 T) eE T.N0.b .nil Ay aBM) (mT aMr)))))))))))),5)
 refine(77,mJN e.map,2,by rw[<-HI];exact f,by rw[ArX];exact ab,λn aj=>?_,λak H1 s1 j=>?_)
 .obtain⟨x,_,rfl⟩:=pA aj;omega
 rw[Mg] at j;refine(0,b,iH,2,by rw[<-HI];exact s1.seq g,λal s2=>?_);rw[show Md iH=HJ l from V_ l];have r:=T1 e;have u:=lS
 cases hm:Je e with
 |none=>
  rw[hm] at j r;have am:aUR=Kgz1.say (-22):=(by show aUS=_;rw[r];rfl);rw[am] at k;refine(16,ak,true,l,2,xB rfl j,λan s3=>?_);have v:=mX u s3;exact aM5
 |some m=>
  rw[hm] at j r;have z:=T2 hm;obtain⟨mp,rfl,ao⟩:=j;have ap:aUR=if kK=true then mD5 23 else if aAL=true then mD5 71 else(match aH6[d]? with|none=>mD5 2|some tk=>(60,mCg 16 tk)):=by show aUS=_;rw[r];rfl
  rw[ap] at k;refine(164,λan s3=>?_);have v:=mX u s3
  cases hw:kK with
  |true=>
   rw[hw,bE] at k;rw[show aDe= -23 by unfold FV;rw[bS,hw,bE]];exact aM5
  |false=>
   rw[hw,bS] at k;obtain⟨Av,aq,ar⟩:=Sx hw
   cases B:aAL with
   |true=>
    rw[B,bE] at k;rw[show aDe= -71 by unfold FV;rw[bS,hw,bS,B,bE]];exact aM5
   |false=>
    rw[B,bS] at k;rw[show aDe=0 by unfold FV;rw[bS,hw,bS,B,bS]];have hb:=Sy l;rw[B] at hb;have hlen:aUP:=by have:decide (1<= kL.length/\ kL.length<=64)=true:=cF;have:=Aut this;rw[ArX] at this;exact this
    have as:aM2:=(mGn bS);refine aUQ;rw[as];refine(42,λS au s4 av C=>?_);rw[Fo] at C;intro p dx hp aw ax;refine(p,dx,mp,S,m,dX,au,190,hp,(mAO aw ax),ao.same aMS,z,C,hlen.1,4,λay s5 hF=>fW);obtain⟨_,G,fs,L,g1,_,g3,az,_⟩:=id hF;have I:=pR v s4 s5;have J:aH6[d]? =(mAg dX)[d]? :=(by rw[T4,<-O1]);refine(7,G,177,0,55);by_cases hk:mJE dX<=d
    .rw[mU (by omega:((NW m dX 0 0 m.cuts.isEmpty:Nat):Int)<=(d:Int))];rw[J,As9 (show(mAg dX).length<=d from hk)] at k;exact Au (90,λD y=>k D _ (oR I y) (I.free y) Af)
    rw[mS (by omega:¬((NW m dX 0 0 m.cuts.isEmpty:Nat):Int)<=(d:Int))];refine Az (mDR 1);have M:=vP gI hq;refine(0,p,G,fs,2,mC M g1,az,0,p,m,dX,d,2,hF.same M,z,4,4,λa0 a1 tk N a2 a3 O=>?_);have U:=AmH m l tk d z O;rw[J,O] at k;refine(a0,tk,(16),2,a3,U,21,λa4 a5 Y a6 a7=>(q,a4,8,nP Y N Af,a7,mNZ 16 U,λD y=>?_));exact k D _ (mX I (pR M N (oR Y y))) (I.free (M.free (N.free (Y.free y)))) Af
theorem NM(h:gQ)(hp:H p=hJ)(e:aM6):Ae K H' a xs:=by
 rcases h with(h|⟨o,h⟩)|h
 .exact oA mH aUT
 .exact mCT (o,aUT)
 exact mI h
abbrev CJ(a:Addr)(n:Nat):List gG:=[("numbers",aI,),("at",lP,)]
def AmK(t:Aw):Sp:=λvs H Q _=>∃(p dx a:Addr),vs=[aS,aI]/\H p=rM t.Cy/\sP (mGq H 0)
theorem AmL:AD aHx aHx (A0 AaO):=aG
theorem AmM(T:aD):A4 P w K mg base A9 1 t.N2 t.Acs aHx (AmK t):=by
 refine vL T.N2.F.ok AmL
 .obtain⟨p,dx,a,rfl,_⟩:=h;rfl
 obtain⟨p,dx,a,rfl,hp,k⟩:=h;refine(_,(Ak aAG
  aEU),5)
 refine(69,108,bB,97,Af,53,189);rw[B1];exact k
def AmN(K:PySem.W.Frag)(t:Aw):Sp:=λvs H Q _=>∃(p dx a:Addr)(n:Nat)(xs:aB),vs=[aS]/\H p=aEV /\xX xs/\rG (decide (n=xs.length))
theorem AmO:AD cK cK (A0 AaP):=aG
theorem AmP(T:aD):A4 P w K mg base A9 1 t.N3 t.Act cK (AmN K t):=by
 refine vL T.N3.F.ok AmO
 .obtain⟨p,dx,a,n,xs,rfl,_⟩:=h;rfl
 obtain⟨p,dx,a,n,xs,rfl,hp,d,k⟩:=h;refine(_,(mD0 (mAQ CL aX aC8)),17,hp,53,2,17,hp,108,2,a,0,mH d,2,5);rw[ArX,Fp];exact k
theorem Wf{xs:aB}(h:aBb=v::r):n<xs.length/\xs[n]? =bJ /\mBM (n+1)=r:=by
 have a:n<xs.length:=by
  rcases mBN Atq n with q|q
  .exact q
  rw[List.drop_of_length_le q] at h;cases h
 rw[As8 a] at h;grind
def AmQ(K:PySem.W.Frag)(t:Aw):Sp:=λvs H Q _=>∃(p dx a:Addr)(n v:Nat)(xs r:aB),vs=[aS]/\H p=aEV /\xX xs/\ aBb=v::r/\Q (mE (v:Int)) (qV aH8)
theorem AmR:AD cK cK (A0 AaQ):=aG
theorem Wg(T:aD):A4 P w K mg base A9 1 t.IA t.Acu cK (AmQ K t):=by
 refine mB2 T.IA.F.ok AmR
 .obtain⟨p,dx,a,n,v,xs,r,rfl,_⟩:=h;rfl
 obtain⟨p,dx,a,n,v,xs,r,rfl,hp,f,hd,k⟩:=h;obtain⟨g,i,_⟩:=Wf hd;refine(_,(Ak aM7
  (vM (qQ aX (zN aX)))),5)
 refine(17,hp,53,2,8,19,hp,aAM,5);have j:BX (iv xs) (((n+1:Nat):Int) - 1)=some (mE (v:Int)):=by rw[show((n+1:Nat):Int) - 1=((n:Nat):Int) by omega];apply AZ;rw[ArY,i];rfl
 exact(129,108,2,129,53,2,8,a,36,(NM (H':=qV aH8) f hp (λb o hb e=>by rw[hD];exact e)),j,k)
def G5:aB ->oG aDL
 |[]=>none
 |n::r=>if n<=r.length then mB (r.take n,r.drop n,) else none
def Et:Nat-> aB ->oG (bV × aB)
 |0,r=>mB ([],r,)
 |k+1,r=>match G5 r with
  |none=>none
  |some (x,s)=>match Et k s with
   |none=>none
   |some (xs,t)=>mB (x::xs,t,)
theorem S0(h:G5 l=mB (x,s,)):∃r,l=x.length::r/\r=x++s:=by
 cases l with
 |nil=>cases h
 |cons n r=>
  have h':aUU=some (x,s,):=h;by_cases a:n<=r.length
  .rw[mK a] at h';injection h' with h'
   injection h' with b c
   subst b c;simp_all
  rw[mM a] at h';cases h'
theorem AmS(xs:aB)(n:Nat)(x s:aB)(h:aBb=x++s):mBM (n+x.length)=s:=by rw[<-AvJ,h,List.drop_left]
def AmT(K:PySem.W.Frag)(t:Aw):Sp:=λvs H Q _=>∃(p dx a:Addr)(n:Nat)(xs x s:aB),vs=[aS]/\H p=aEV /\xX xs/\xs.length<=100000/\G5 aBb=mB (x,s,)/\
 ∀D n',H D=none-> aH9=s->n<n'->n'<=xs.length->Q hL (Aa (mGq H n') D (pT x))
theorem AdS:AD (qP "size") cK (A0 AaR):=aG
theorem AdT(T:aD):A4 P w K mg base A9 2 t.Kz t.Acv cK (AmT K t):=by
 refine mB2 T.Kz.F.ok AdS
 .obtain⟨p,dx,a,n,xs,x,s,rfl,_⟩:=h;rfl
 obtain⟨p,dx,a,n,xs,x,u,rfl,hp,f,g,j,k⟩:=h;obtain⟨r,l,m⟩:=S0 j;obtain⟨q,v,y⟩:=Wf l;rw[m] at y;have hle:n+1+x.length<=xs.length:=by have:=yJ y;rw[AtH,Asi] at this;omega
 refine(_,(Ak (tE AdS.nd (mJO aL eF))
  (Ak (GW aL aQ Jn)
  (Ao (A3 (F4 (rZ IG) aX (EZ (AE FI aX aQ)) (EZ aX)))))),5)
 refine(193,hp,81,n,x.length,xs,r,2,hp,f,l,5);have z:∀o b u,b≠p->H b=aM ->(qV o) b=some u:=λo b u hb e=>(oN hb e);refine(129,53,30,8,19,Af,aAM,5);rw[B1];have B:=NM (H':=mGq H aIa) f hp (z _);have C:Dx (iv xs) (mB (((n+1+x.length:Nat):Int) - ((x.length:Nat):Int))) (mB ((n+1+x.length:Nat):Int))=iv x:=by unfold Dx;rw[show((n+1+x.length:Nat):Int) - ((x.length:Nat):Int)=((n+1:Nat):Int) by omega,HT.Hz,HT.Hz,ArX,aDg,aDg,<-List.map_drop,y,<-AuM,show n+1+x.length - (n+1)=x.length by omega,List.take_left]
 refine(92,108,2,92,53,30,8,0,92,53,30,a,0,B,λD G=>?_);rw[C];rw[Ah (λe=>by rw[e,Af] at G;cases G)] at G;exact k D _ G (by rw[show n+1+x.length=(n+1)+x.length from rfl];exact AmS xs (n+1) x u y) aA hle
def Mh(H:Hp)(L:Addr)(ls:bV):Prop:=∃ds:aP,H L=pF ds.map/\ds.length=ls.length/\∀(i:Nat)(d:Addr)(x:aB),ds[i]? =mB d->ls[i]? =aY ->H d=nW x
theorem Mh.same(h:Mh H L ls)(s:aO):Mh H' L ls:=by obtain⟨ds,g,j,q⟩:=h;exact(ds,nH g,j,λi d x a b=>nH (q i d x a b))
theorem Wh:∀(k:Nat)(l:aB)(ls:bV)(u:aB),Et k l=vH ls->ls.length=k/\k+u.length<=l.length
 |0,l,ls,u,h=>by injection h with h;injection h with a b;subst a b;exact(mD6 rfl)
 |k+1,l,ls,u,h=>by
  unfold Et at h
  cases e:G5 l with
  |none=>rw[e] at h;cases h
  |some q=>
   obtain⟨x,s⟩:=q;rw[e] at h;simp only at h
   cases c:Et k s with
   |none=>rw[c] at h;cases h
   |some d=>
    obtain⟨xs,t⟩:=d;rw[c] at h;injection h with h
    injection h with a b
    subst a b;have f:=Wh k s xs t c;obtain⟨r,g,h4⟩:=S0 e;grind
def AmU(K:PySem.W.Frag)(t:Aw):Sp:=λvs H Q _=>∃(p dx a:Addr)(n k:Nat)(xs r:aB)(ls:bV)(u:aB),vs=[aS]/\H p=aEV /\xX xs/\xs.length<=100000/\ aBb=k::r/\Et k r=vH ls/\
 ∀D n' H',H D=none-> aH9=u->n<n'->n'<=xs.length-> aM6 ->H' p=mAX pI n'->Mh H' D ls-> eS
abbrev AmV:List Str:=(qP "number")
theorem Wi:AD (qP "number") cK (A0 Vi):=aG
theorem AmW(T:aD):A4 P w K mg base A9 3 t.N4 t.Acw cK (AmU K t):=by
 refine oW T.N4.F.ok Wi
 .obtain⟨p,dx,a,n,c,xs,r,ls,u,rfl,_⟩:=h;rfl
 obtain⟨p,dx,a,n,c,xs,r,ls,u,rfl,hp,ac,ae,af,ag,k⟩:=h;obtain⟨ah,ai,aj⟩:=Wf af;have hlen:=rH Wh ag;have ak:mCj 100000:=(by rw[<-aj,AtH];omega);refine(_,(Ao (A3 (Dk rfl Wi.nd (mGg (mJO aL bR)) (qD ("number",1,) AmV Vi) (pE 1 Wi.nd) cI (pZ (mN5 aL bR))))),193,hp,81,n,c,xs,r,2,hp,ac,af,0,4,4,λD f=>?_);have g:D≠p:=λe=>aUV;have l:nA H D:=(by rw[Ah g] at f;exact f);rw[show((c:Nat):Int).toNat=c by omega];refine EA (J:=Jl 0 c) c (λj H'=>∃(n':Nat)(ds:aP),aM6 /\H' p=mAX pI n'/\n<n'/\n'<=xs.length/\Et (c - j) aH9=mB (ls.drop j,u,)/\ dQ=pF ds.map/\ds.length=j/\∀(i:Nat)(d:Addr)(x:aB),ds[i]? =mB d->ls[i]? =aY ->d≠D/\d≠p/\H' d=nW x)
  (n+1,[],λb o hb e=>by rw[nZ l,hD];exact e,by rw[nQ g,Af],4,4,by rw[aj];exact ag,88,λi d x h=>by simp at h)
  (λi H' v _=>v) (λH' _=>aF) ?_ ?_
 .rintro j al y am hj ⟨n',ds,C,G,an,ao,I,L,M,hit⟩ ⟨rfl,rfl⟩;obtain⟨m,hm⟩:∃m,c - j=m+1:=(mBj c j);rw[hm] at I;unfold Et at I
  cases e:G5 aH9 with
  |none=>rw[e] at I;cases I
  |some q=>
   obtain⟨x,s2⟩:=q;rw[e] at I;simp only at I
   cases e3:Et m s2 with
   |none=>rw[e3] at I;cases I
   |some ap=>
    obtain⟨ys,aq⟩:=ap;rw[e3] at I;injection I with I
    injection I with N O
    subst O;have ar:j<ls.length:=aA;rw[As8 ar] at N;injection N with N as
    refine(2,xR ?_);refine(193,G,81,n',xs,x,s2,2,G,NM ac hp C,ae,e,λau n2 U hd2 av hle=>?_);have aw:au≠p:=λz=>(mJP z G);have ax:au≠D:=λz=>(mJP z L);refine(aES,by rw[nQ ax,Ah g];exact L,fU,n2,ds++[au],λb o hb Y=>?_,5,4,hle,5,23,by simp[M],λi d ay v hx'=>?_)
    .have az:=AR Y l;rw[Ah az,Ah (λz=>by rw[z] at Y hb;rw[mV C hb Y] at U;cases U),hD];exact mV C hb Y
    .rw[nQ g,nQ aw,Af]
    .rw[hd2,show c - (j+1)=m by omega,e3,as]
    by_cases a0:i<ds.length
    .rw[Ask a0] at v;obtain⟨a1,a2,a3⟩:=hit i d ay v hx';exact(a1,a2,by rw[Ah a1,Ah (λz=>by rw[z] at a3;rw[a3] at U;cases U),Ah a2];exact a3)
    rw[eL] at v;have a4:i=ds.length:=by have:=(nS v).1;simp at this;omega
    subst a4;rw[At9,List.getElem?_cons_zero] at v;injection v with v
    subst v;rw[M,mJ ar] at hx';injection hx' with hx'
    refine(rF ax aw);rw[Ah ax,Af,<-hx',N]
 rintro al ⟨n',ds,C,G,an,ao,I,L,M,hit⟩;rw[At9] at I;injection I with I
 injection I with _ I
 exact k D n' al l I an ao C G (ds,L,4,λi d x N O=>(hit i d x N O).2.2)
def KA(a:Kgz2.Ans):List V:= mE a.value::iv aUW
def C5(l:aB):List Nat:=l++oX (24 - l.length) 0
def Wj:Nat-> aB -> bV ->oG aK
 |0,[],[l]=>oZ IL aET
 |1,[],[m,l]=>oZ IL (mGp m.length m)
 |2,[k],[m,l]=>oZ IL (mJM m.length m k)
 |10,[Aq],m::a::st=>some (mJQ (.next m.length m gU st.length Aq a a.length))
 |_,_,_=>none
def Wl(K:PySem.W.Frag):Sp:=λvs H Q _=>∃(Aq:Nat)(m a L:Addr)(b c:aB)(st:bV),vs=[xY mE,mF m,aI,mF L]/\mGo m b/\H a=nW c/\Mh H L st/\b.length<=30000/\c.length<=30000/\st.length<=30000/\(∀x∈st,x.length<=30000/\∀z∈x,z≠0)/\
 ∀D H',aO ->H D=none-> dQ=mGr mJQ (.next b.length b gU st.length Aq c c.length)-> eS
structure Cl where
 c:Nat
 ns:List Nat
 ls:bV
structure Cl.Ok(x:Cl)(v:aK):Prop where
 st:Wj x.c x.ns x.ls=some v
 len:x.ls.length<=30000
 ArT:∀l∈x.ls,l.length<=30000
 nz:x.c=10->∀l∈x.ls.drop 2,∀z∈l,z≠0
def AmX:Sp:=λvs H Q _=>∃(x:Cl)(n L:Addr)(v:aK),vs=[mE (x.c:Int),mF n,mF L]/\H n=nW x.ns/\Mh H L x.ls/\x.Ok v/\∀D H',aO ->H D=none-> dQ=nV v-> eS
theorem AmY:AD aHj aHj (A0 AaY):=aG
theorem AmZ(b:aUX)(T:aD):A4 P w K mg base A9 58 t.answer t.Ac4 aHj AmX:=by
 refine T.answer.F.ok AmY cM (λaa A outer s H vs Q E f h=>?_)
 .obtain⟨x,n,L,v,rfl,_⟩:=h;rfl
 obtain⟨⟨c,ns,ls⟩,n,L,v,rfl,g,p,⟨q,hlen,r,u⟩,k⟩:=h;simp only at g p q hlen r u;obtain⟨ds,y,hd2,z⟩:=p;obtain⟨ab,B,C⟩:=T.Akn;obtain⟨ac,G,I⟩:=T.Ako;obtain⟨ae,J,M⟩:=T.Akp;refine(_,(Ak (nG (mDK B C) (Ao (A3 (Bb (AmB T) aEW rfl T.speak.m T.speak.F.kp T.speak.b .nil Ay (mT gS)))))
  (Ak (nG (mDK G I) (Ao (A3 (Bb (AmG T) aEW rfl T.scan.m T.scan.F.kp T.scan.b .nil Ay (uV gS)))))
  (Ak (nG (mDK J M) (Ao (A3 (Bb (AmJ T) aEW rfl T.way.m T.way.F.kp T.way.b .nil Ay (Ad aMT (uV gS))))))
  (Ao (A3 (Bb b aEW rfl T.Jr.m T.Jr.F.kp T.Jr.b .nil Ay (Ad aMT (Ad gS (mAT gS (mF6 IG aW)))))))))),5)
 have N:∀(j:Nat)(d:Addr),ds[j]? =mB d->BX aES (j:Int)=some dC:=λj d e=>by apply AZ;rw[ArY,e];rfl
 match c,ns,ls,q with
 |0,[],[l],q=>
  injection q with q
  subst q;obtain⟨d,rfl⟩:∃d,ds=[d]:=by
   match ds,hd2 with
   |[d],_=>exact(d,2)
  refine aIb;refine(0,L,36,mN y,aIc,d,l,2,mD7 0 d l,k)
 |1,[],[m,l],q=>
  injection q with q
  subst q;obtain⟨d,e,rfl⟩:∃d e,ds=[d,e]:=by
   match ds,hd2 with
   |[d,e],_=>exact(yZ d e)
  refine(mCi aIb);refine(0,43,82)
 |2,[O],[m,l],q=>
  injection q with q
  subst q;obtain⟨d,e,rfl⟩:∃d e,ds=[d,e]:=by
   match ds,hd2 with
   |[d,e],_=>exact(yZ d e)
  refine(oA mCi aIb);refine(165,O,82)
 |10,[Aq],m::a::st,q=>
  injection q with q
  subst q;obtain⟨d,e,U,rfl⟩:∃d e U,ds=d::e::U:=by
   match ds,hd2 with
   |d::e::U,_=>exact(d,e,U,2)
  refine(oA mCi aH0);have af:Dx (nF (d::e::U).map) (mB 2) none=U.map V.ref:=by unfold Dx;rw[show(mB (2:Int))=mB ((2:Nat):Int) from rfl,HT.Hz,HT.Ki];simp only[List.map_cons,List.length_cons,List.length_map];rw[show min 2 (U.length+1+1)=2 by omega,Auz,Auz,Atv];exact AsW kI
  refine(165,16,L,0,mN y,λS ag=>?_);rw[af];have Y:=vP (nF U.map) ag;simp at hlen hd2;refine(Aq,d,e,S,m,a,st,2,nD Y (z 0 d m rfl rfl),qY (z 1 e a rfl rfl),(U,Af,4,λi d' x ah ai=>qY (z (i+2) d' x ah ai)),r m aC,r a aC,4,λx hx=>(r x aMB,u rfl x hx),λD H' aj ak e'=>k D H' (mX Y aj) (Y.free ak) e')
def J1:aB ->oG (Cl× aB)
 |[]=>none
 |p::r=>match G5 r with
  |none=>none
  |some (_,[])=>none
  |some (ns,k::t)=>match Et k t with
   |none=>none
   |some (xs,u)=>vH aM9
def Fq:Nat-> aB ->oG (mY Cl)
 |_,[]=>mB []
 |0,_::_=>none
 |f+1,p::r=>match J1 jC with
  |none=>none
  |some (c,t)=>match Fq f t with
   |none=>none
   |some cs=>mB (c::cs)
theorem AdU(h:J1 jC=vH c):∃ns k t ls,G5 r=mB (ns,k::t,)/\Et k t=vH ls/\c=(mO p ns ls):=by
 unfold J1 at h;simp only at h
 cases e:G5 r with
 |none=>rw[e] at h;cases h
 |some q=>
  obtain⟨ns,s⟩:=q;rw[e] at h
  cases s with
  |nil=>cases h
  |cons k t=>
   simp only at h
   cases a:Et k t with
   |none=>rw[a] at h;cases h
   |some b=>
    grind
theorem Am_(h:Fq f jC=mB cs):∃a c u cr,J1 jC=vH c/\Fq a u=mB cr/\cs=c::cr:=by
 cases f with
 |zero=>cases h
 |succ f=>
  unfold Fq at h
  cases e:J1 jC with
  |none=>rw[e] at h;cases h
  |some q=>
   obtain⟨c,u⟩:=q;rw[e] at h;simp only at h
   cases b:Fq f u with
   |none=>rw[b] at h;cases h
   |some cr=>
    grind
def KB:aEX -> aK
 |[]=>[]
 |(_,v)::r=> mE (v.length:Nat)::v++KB r
def Wm(K:PySem.W.Frag):Sp:=λvs H Q _=>∃(a:Addr)(xs:aB)(f:Nat)(cv:aEX),vs=cP /\xX xs/\xs.length<=30000/\Fq f xs=aNa /\cv.length<=300/\ aNb /\
 ∀D H',aO ->H D=none-> dQ=nV (KB cv)-> eS
theorem NN:AD ["calls","reader","given","call","numbers","answered"] aEC (A0 Vk):=aG
theorem Ana(aa:aUX)(T:aD):A4 P w K mg base A9 59 t.answers t.R8 aEC (Wm K):=by
 refine T.answers.F.ok NN cM (λab A outer s H vs Q E d h=>?_)
 .obtain⟨a,xs,f,cv,rfl,_⟩:=h;rfl
 obtain⟨a,xs,f,g,rfl,j,ac,ae,af,Av,k⟩:=h;refine(_,(Ak (tE NN.nd (Dc T.Eo.k (AmM T) eF rfl T.Eo.m T.N2.b .nil Ay aBM))
  (Ak (pY NN.nd eU)
  (Ak (Ka Asq (Ff (D9 (GY aQ T.Eo.c T.N3.h (AmP T) eF T.N3.b .nil Ay))) (Ak (rL NN.nd (mJO aQ eF))
  (Ak (qE NN.nd (mN5 aQ eF))
  (Ak (sA NN.nd (Bb (AmZ aa T) eF rfl T.answer.m T.answer.F.kp T.answer.b .nil Ay (Ad bF (Ad bI (mT (GY aQ T.Eo.c T.N4.h (AmW T) eF T.N4.b .nil Ay))))))
  (Ak (Cu (mDL (mT (uD pv 5))))
  (mB4 (mNC (mT bQ))))))))
  aBN))),5)
 refine(0,λp dx hp ag ah=>(mD8 p dx a));rw[B1];have s1:Ab H (mGq (qL H dx p) 0):=mAO ag ah;refine(aR,λG l=>?_);have q:G≠p:=λe=>(mN6 Af);have ai:nA H G:=s1.free l;refine(λm σ H1=>∃(n f:Nat)(cv:aEX)(x:aK)(aj v4 ak:bO),m=xs.length - n/\σ=[mG a,bP,mG G,aj,v4,ak]/\ fS /\H1 p=aEV /\H1 G=nV x/\n<=xs.length/\Fq f aBb=aNa /\ aNb /\x++KB cv=KB g/\x.length+66*cv.length<=66*300,(xs.length,60,f,g,[],162,29,oR s1 l,by rw[nQ q,Af],Af,aR,ae,Av,2,41),5)
 rintro m σ H1 ⟨n,f,cv,x,aj,v4,ak,rfl,rfl,y,z,al,am,hc,an,ao,ap⟩;refine(193,z,81,n,xs,2,z,y.seq j,0,5);by_cases B:n=xs.length
 .rw[mU B];refine Az (0,k G H1 y ai ?_);rw[B,AuI] at hc;have:yO cv.map=[]:=by
   cases f<;>(injection hc with hc;exact hc.symm)
  have aq:cv=[]:=At2.mp this;subst aq;rw[al,<-ao];show oZ HO.Ac x=oZ HO.Ac (x++[]);rw[Aum]
 rw[mS B];refine Au (_,λar H' h=>h,5);have as:n<xs.length:=aA;have C:=As8 as;generalize xs[n]=c0 at C;generalize au:mBM (n+1)=r at C;rw[C] at hc;obtain⟨av,c,u,cr,aw,ax,D⟩:=Am_ hc;obtain⟨ns,ay,tt,ls,az,a0,rfl⟩:=AdU aw
 cases cv with
 |nil=>cases D
 |cons cw a1=>
  obtain⟨c1,v⟩:=cw;rw[Asn] at D;injection D with a2 a3
  simp only at a2;subst a2;obtain⟨a4,a5⟩:=an _ AsG;have a5:v.length<=65:=a5;refine(193,z,81,n,c0,xs,r,2,z,y.seq j,C,5);have I:nA H p:=hp;have s2:Ab H aNc:=qH y I;have J:oB aNc G (.Ac x):=(oN q al);have L:wO H1 aH8:=Af;generalize aNc=M at s2 J L;rw[<-au] at az;refine(193,L,81,n+1,xs,ns,ay::tt,2,L,s2.seq j,4,az,λN n2 O hd2 a6 a7=>?_);have a8:N≠p:=λe=>(by rw[e,L] at O;cases O);have s3:Ab H aEY:=qH (qH s2 I) (s2.free O);have a9:oB (aEY) G (.Ac x):=(by rw[Ah (λe=>by rw[<-e,J] at O;cases O),Ah q];exact J);have U:oB (aEY) p (mAX nB n2):=(mD9 nQ a8);have ba:zM (aEY) N ns:=Af;generalize aEY=bb at s3 a9 U ba;refine(16,193,U,81,n2,ay,xs,tt,ls,u,2,U,s3.seq j,4,hd2,a0,λbc n3 bd be bf bg bh Y bi bj=>?_);have bk:=mV Y q a9;refine((mO c0 ns ls),N,bc,v,2,mV Y a8 ba,bj,a4,λbl bm s5 bn bo=>?_);have bp:=vQ bk;simp at ap;refine(0,pL bp,0,bl,0,uU bo,G,8,bp,aBI,0,pL Af,0,G,bl,8,Af,by rw[Ah (λe=>by rw[e,bk] at bn;cases bn)];exact bo,AL (by rw[Asi];simp;omega),5)
  rw[B1];refine(xs.length - n3,4,n3,av,a1,19,8,Ab.BG (mX (λb o e=>Y b o (AR e I) (pQ s3)) s5) ai,by rw[nQ q];exact vQ bi,Af,bh,by rw[bf,ax,a3],λc hc=>pH an c hc,5,5)
  .rw[<-ao];simp[KB]
  simp;omega
end
end Vp
namespace Vp
open PySem L2 Vf
abbrev ci(l:aB):List Int:=l.map λn=>((n:Nat):Int)
theorem ArU(l:aB)(n:Nat):kM.take n=ci (zC n):=by simp[ci,List.map_take]
theorem ArV(l:aB)(n:Nat):kM.drop n=ci (mET n):=by simp[ci,List.map_drop]
theorem AdV(l:aB):PyFlat.row kM=(G5 l).map λq=>(ci q.1,ci q.2,):=by
 cases l with
 |nil=>rfl
 |cons n r=>
  show(if 0<=((n:Nat):Int)/\((n:Nat):Int).toNat<=(ci r).length then mB ((ci r).take ((n:Nat):Int).toNat,(ci r).drop ((n:Nat):Int).toNat,) else none)=mJR aUU;simp
theorem AdW:∀(k:Nat)(l:aB),PyFlat.rows k kM=(Et k l).map λq=>(q.1.map ci,ci q.2,)
 |0,l=>rfl
 |k+1,l=>by
  unfold PyFlat.rows Et;rw[AdV]
  cases e:G5 l with
  |none=>rfl
  |some q=>
   obtain⟨x,s⟩:=q;simp;rw[AdW k s]
   cases a:Et k s with
   |none=>rfl
   |some b=>rfl
def enc(c:Cl):List bG:=ci (c.c::c.ns)::c.ls.map ci
theorem Anb(l:aB):PyWide.call kM=(J1 l).map λq=>(enc q.1,ci q.2,):=by
 cases l with
 |nil=>rfl
 |cons p r=>
  show(match PyFlat.row (ci r) with|none=>none|some (_,[])=>none|some (ns,k::t)=>if 0<=k then(match PyFlat.rows k.toNat t with|none=>none|some (xs,u)=>mB ((((p:Nat):Int)::ns)::xs,u,)) else none)=mJR (match G5 r with|none=>none|some (_,[])=>none|some (ns,k::t)=>match Et k t with|none=>none|some (xs,u)=>vH (aM9:Cl));rw[AdV]
  cases e:G5 r with
  |none=>rfl
  |some q=>
   obtain⟨ns,s⟩:=q
   cases s with
   |nil=>rfl
   |cons k t=>
    show(if 0<=((k:Nat):Int) then(match PyFlat.rows ((k:Nat):Int).toNat (ci t) with|none=>none|some (xs,u)=>mB ((((p:Nat):Int)::ci ns)::xs,u,)) else none)=mJR (match Et k t with|none=>none|some (xs,u)=>vH (aM9:Cl));rw[gZ,AtN,AdW]
    cases a:Et k t with
    |none=>rfl
    |some b=>rfl
theorem AdX:∀(f:Nat)(l:aB),PyWide.calls f kM=(Fq f l).map λcs=>cs.map enc
 |f,[]=>by cases f<;>rfl
 |0,p::r=>rfl
 |f+1,p::r=>by
  unfold Fq;show(match PyWide.call (ci jC) with|none=>none|some (c,t)=>match PyWide.calls f t with|none=>none|some cs=>mB (c::cs))=_;rw[(Anb jC)]
  cases e:J1 jC with
  |none=>rfl
  |some q=>
   obtain⟨c,t⟩:=q;simp;rw[AdX f t]
   cases a:Fq f t with
   |none=>rfl
   |some cs=>rfl
theorem AdY:∀(k:Nat)(l:aB)(ls:bV)(u:aB),Et k l=vH ls->∀x∈ls,x.length<=l.length
 |0,l,ls,u,h=>by injection h with h;injection h with a b;subst a;intro x hx;cases hx
 |k+1,l,ls,u,h=>by
  unfold Et at h
  cases e:G5 l with
  |none=>rw[e] at h;cases h
  |some q=>
   obtain⟨x,s⟩:=q;rw[e] at h;simp only at h
   cases c:Et k s with
   |none=>rw[c] at h;cases h
   |some d=>
    obtain⟨xs,t⟩:=d;rw[c] at h;injection h with h
    injection h with a b
    subst a;obtain⟨r,f,h4⟩:=S0 e;subst f h4;intro y hy;simp;rcases pN hy with rfl|hy
    .omega
    have:=AdY k s xs t c y hy;omega
theorem Anc(h:J1 l=vH c):u.length<l.length/\c.ls.length<=l.length/\∀x∈c.ls,x.length<=l.length:=by
 cases l with
 |nil=>cases h
 |cons p r=>
  obtain⟨ns,k,t,ls,a,b,rfl⟩:=AdU h;obtain⟨d,e,h4⟩:=S0 a;subst e h4;have f:=rH Wh b;have h6:=rH AdY b;grind
theorem AdZ:∀(f:Nat)(l:aB)(cs:mY Cl),Fq f l=mB cs->∀c∈cs,c.ls.length<=l.length/\∀x∈c.ls,x.length<=l.length
 |f,[],cs,h=>by
  have:cs=[]:=(by cases f<;>(injection h with h;exact h.symm));subst this;intro c hc;cases hc
 |0,p::r,cs,h=>by cases h
 |f+1,p::r,cs,h=>by
  unfold Fq at h
  cases e:J1 jC with
  |none=>rw[e] at h;cases h
  |some q=>
   obtain⟨c,t⟩:=q;rw[e] at h;simp only at h
   cases a:Fq f t with
   |none=>rw[a] at h;cases h
   |some cr=>
    rw[a] at h;injection h with h
    subst h;have hs:=Anc e;intro b hc';rcases pN hc' with rfl|hc'
    .exact hs.2
    have:=AdZ f t cr a b hc';grind
theorem P4(l:aB):KgzNeutral.P1.natsOf kM=l:=Mg l
theorem Wn(l:aB):KgzNeutral.P2.natsOf kM=l:=Mg l
theorem Ane(l:aB):KgzNeutral.P2.word kM=C5 l:=by unfold KgzNeutral.P2.word C5;rw[Wn,ArX]
theorem Wo(a:Kgz1.Ans):(a.value::KgzNeutral.P1.ints a.out).map V.int=IL a:=by unfold IL KgzNeutral.P1.ints;rw[Asn,HI]
theorem Anf(a:Kgz2.Ans):(a.value::KgzNeutral.P2.ints aUW).map V.int=KA a:=by unfold KA KgzNeutral.P2.ints;rw[Asn,HI]
theorem Wp(n:Nat)(l:aB):(mCg n l).length=n:=by unfold Kgz1.padded;simp
theorem Wq(x:Kgz1.Call):mBq IL (mEa x) 65:=by
 have h:(mEa x).out.length<=64:=by
  cases x with
  |speak n l=>
   simp only[Kgz1.answer];split
   .exact aR
   split
   .exact aR
   simp only[Wp];omega
  |scan m b n l=>
   simp only[Kgz1.answer];split
   .exact aR
   split
   .exact aR
   split<;>exact aR
  |way m b n l k=>
   simp only[Kgz1.answer];split
   .exact aR
   split
   .exact aR
   split
   .exact aR
   split
   .exact aR
   simp only[Wp];omega
 unfold IL;rw[As1,ArX];omega
theorem Ang(x:Kgz2.Call):mBq mJQ x 65:=by
 have h:(Kgz2.answer x).out.length<=12:=by
  cases x with
  |next m b c w Aq Dt a=>
   simp only[Kgz2.answer];split
   .exact aR
   split
   .exact aR
   split
   .exact aR
   split
   .exact aR
   simp only[Wp];omega
 unfold KA;grind
theorem Anh(h:nI KgzNeutral.P1.asked1 ((z::ns)::ls)):(z=0/\ns=[]/\∃a,ls=[a])\/(z=1/\ns=[]/\∃a c,ls=[a,c])\/(z=2/\(∃b,ns=[b])/\∃a c,ls=[a,c]):=by unfold KgzNeutral.P1.asked1 at h;grind
theorem Ani(h:nI KgzNeutral.P2.asked1 ((z::ns)::ls)):z=0/\∃b a c l,ns=[b]/\ls=a::c::l/\l.all (λ(w:List Int)=>w.all (λ(z:Int)=>KgzNeutral.P2.natural z 8&&z != 0))=true:=by unfold KgzNeutral.P2.asked1 at h;grind
theorem Wr(h:sD f=[b]):∃a,l=[a]:=by
 match l,h with
 |[a],_=>exact(a,2)
theorem Ad_(h:sD f=[b,c]):∃a d,l=[a,d]:=by
 match l,h with
 |[a,d],_=>exact(yZ a d)
theorem Anj(h:sD f=b::c::r):∃a d s,l=a::d::s/\s.map f=r:=by
 match l,h with
 |a::d::s,h=>exact(a,d,s,2,by simpa using(List.cons.inj (List.cons.inj h).2).2)
theorem Ank(c:Cl)(h:nI KgzNeutral.asked1 (enc c)):∃v,Wj c.c c.ns c.ls=bJ /\(aNd).2.map V.int=v/\v.length<=65/\(c.c=10->∀l∈c.ls.drop 2,∀z∈l,z≠0):=by
 obtain⟨c,ns,ls⟩:=c;have d:KgzNeutral.place aUY=(c:Int):=rfl;unfold KgzNeutral.asked1 at h;unfold KgzNeutral.step;rw[d] at h⊢;by_cases e:(c:Int)<10
 .rw[bU] at h⊢;have hd:mN7 0=(((c:Nat):Int)::ci ns)::ls.map ci:=by
   rfl
  rw[hd] at h⊢;rcases Anh h with⟨f,g,a,i⟩|⟨f,g,a,b,i⟩|⟨f,⟨k,g⟩,a,b,i⟩
  .have f:c=0:=aA;have g:=At2.mp g;obtain⟨l,i⟩:=Wr i;subst f g i;refine aNe;show aNf=_;rw[Wo,P4,ArX]
  .have f:c=1:=aA;have g:=At2.mp g;obtain⟨m,l,i⟩:=Ad_ i;subst f g i;refine aNe;show aNf=_;rw[Wo,P4,P4,ArX,ArX]
  have f:c=2:=aA;obtain⟨k',g⟩:=Wr g;obtain⟨m,l,i⟩:=Ad_ i;subst f g i;refine aNe;show aNf=_;rw[Wo,P4,P4,ArX,ArX];rfl
 rw[bN] at h⊢;by_cases j:(10:Int)<=(c:Int)/\(c:Int)<20
 .rw[mK j] at h⊢;have hd:mN7 10=((((c:Nat):Int) - 10)::ci ns)::ls.map ci:=rfl;rw[hd] at h⊢;obtain⟨f,b,a,n,l,g,i,h4⟩:=Ani h;have f:c=10:=aA;obtain⟨Aq,g⟩:=Wr g;obtain⟨m,o,st,i,p⟩:=Anj i;subst f g i;refine(0,5,Ang _,λ_ l r z hz=>?_)
  .show(_::KgzNeutral.P2.ints _).map V.int=_;rw[Anf,Wn,Wn,ArX,ArX,ArX];have:(st.map ci).map KgzNeutral.P2.word=st.map C5:=by
    rw[AsB];apply AsU;intro x _;exact Ane x
   rw[this];rfl
  have s:=r;rw[<-p,AsL] at h4;have p:=h4 kM (AtE s);grind
 rw[mM j] at h
 cases h
theorem Aea:∀(cs:mY Cl),aUZ ->∃cv:aEX,yO cv.map=cs/\(∀x∈cv,Wj x.1.c x.1.ns x.1.ls=mB x.2/\x.2.length<=65/\(x.1.c=10->∀l∈x.1.ls.drop 2,∀z∈l,z≠0))/\
 KB cv=(PyFlat.told (mN8 KgzNeutral.start)).map V.int
 |[],_=>([],2,(λx hx=>nomatch hx),2)
 |c::cs,h=>by
  obtain⟨v,a,b,d,h4⟩:=Ank c (h c AsG);obtain⟨cv,g1,g2,g3⟩:=Aea cs λc hc=>pH h c hc;refine((c,v,)::cv,by rw[Asn,g1],dY,5)
  .grind
  show mQ (v.length:Nat)::v++KB cv=_;rw[g3];show _=(PyFlat.told ((aNd).2::mN8 (aNd).1)).map V.int;unfold PyFlat.told;grind
theorem Anl(xs:aB)(a:xs.length<=30000)(h:nI PyKgz.answers_asked (ci xs)):∃cv:aEX,aNg=aNa /\cv.length<=300/\ aNb /\KB cv=(PyKgz.answers (ci xs)).map V.int:=by
 unfold PyKgz.answers_asked at h;unfold PyKgz.answers;have hc:PyKgz.calls (ci xs)=aNg.map λcs=>cs.map enc:=by unfold PyKgz.calls;rw[ArX];exact mBO AdX xs
 rw[hc] at h⊢
 cases e:aNg with
 |none=>rw[e] at h;cases h
 |some cs=>
  rw[e] at h;simp at h;have b:cs.length<=300:=by have:=h.1;unfold PyFlat.atMost at this;grind
  have d:aUZ:=by have:=h.2;unfold KgzNeutral.asked at this;grind
  obtain⟨cv,g1,g2,g3⟩:=Aea cs d;refine(cv,by rw[g1],by rw[<-g1,ArX] at b;exact b,λc hc=>?_,g3);have f:=(rW AdZ e) c.1 (vF g1 AtE hc);obtain⟨g,i,j⟩:=g2 c hc;exact((g,4,λl a=>by have:=f.2 l a;omega,j),i)
end Vp
namespace Vp
open PySem PySem.Spec L2 Vf
section
variable {P:Program} {w:World} {K:PySem.W.Frag} {mg:aN} {base:Heap} {t:Aw}
def P5:Vf.Txt:=[97,98,99,100,101,102,103,104,105,106,107,108,109,110,111,112,113,114,115,116,117,118,119,120,121,122,65,69,73,79,85,89]
theorem Anm:mI8 tX=P5:=by decide+kernel
theorem Ann(n:Nat):(P5.any λc=>(c:Int)==(n:Int))=Kgz1.isLetter n:=by
 have h:=AdN n;have a:K8=P5++[32]:=rfl;rw[a,List.any_append] at h;by_cases e:n=32
 .subst e;decide+kernel
 grind
theorem Ano(l:aB):K6 P5 iH=if mJk l.all=true then oK l else .Ax:=by
 unfold K6;rw[Mg,Atw];have:(l.all ((mJa P5.any)∘λn=>((n:Nat):Int)))=l.all Kgz1.isLetter:=by apply AwO rfl;intro n;exact Ann n
 rw[this]
theorem Anp(st:bV):mN9 (st.map λx=>if jI=true then rX x else .Ax):=by
 unfold DP
 induction st with
 |nil=>rfl
 |cons x r a=>
  rw[Asn,Ata,a,AtJ]
  cases jI<;>simp[FM]
def FW(x:aB):Bool:=decide (1<=x.length)&&decide (x.length<=23)
def G6(st:bV):Bool:=decide (1<=st.length/\st.length<=64)&&aU0
def P6(H H':Hp)(st:bV)(v:V):Prop:=if G6 st=true then∃D,v= hL /\H D=none/\ dQ=zO st else v= .Ax
def Anq:Sp:=λvs H Q _=>∃(L:Addr)(st:bV),vs=[mF L]/\Mh H L st/\st.length<=30000/\(mOa 30000)/\∀v H',aO ->P6 H H' st v->oJ v
abbrev Aeb:List Str:=aU1
theorem P7:AD aU1 ["stock"] (A0 R6):=aG
theorem Anr(T:aD):A4 P w K mg base A9 2 t.LQ t.Ac2 ["stock"] Anq:=by
 refine T.LQ.F.ok P7 cM aU2
 .obtain⟨L,st,rfl,_⟩:=h;rfl
 obtain⟨L,st,rfl,b,ab,hx,k⟩:=h;obtain⟨ds,c,hd2,ac⟩:=b;have hd:∀(d:Hp),Ab H d->∀i(f:i<ds.length),Ae K d ds[i] (iv (st[i]' aA)):=λd s2 i f=>nD s2 (ac i ds[i] _ (mJ f) fP);obtain⟨ae,af,ag⟩:=T.Akt;obtain⟨ah,ai,aj⟩:=T.Aku;obtain⟨ak,al,am⟩:=T.AcC;refine(_,(Ak (zE (PW.pt (Id (mJl aAE aMF) (JX (Ff (D9 (mF9 (Ad (Dk rfl P7.nd aC4 aU3 (pE 1 P7.nd) cI (pZ (Ul DB DB Ar (uD pv 1) aHR))) Ai))))))))
  (Ak (HD (i:=2) rfl P7.nd rfl rfl jH aC4 aU3 (pE 1 P7.nd) cI (λ_ _ _ _ _=>(Bb (VC T) aNh rfl T.Gx.m T.Gx.F.kp T.Gx.b .nil Ay (oV aQ (nT al am)))))
  (vM (Ie (zF (rZ V6) Da aW) Da aW)))),5)
 have bad:G6 st=false->Q .Ax H:=λh=>k .Ax H fA aU4;have g:∀d,Ab H d->G6 st=false->Q .Ax d:=λd s2 h=>k .Ax d s2 aU4;refine(mAK L (mN c));rw[ArX,hd2];by_cases l:1<=st.length
 .rw[mAM (st.length:Nat)];refine aEK;by_cases m:st.length<=64
  .rw[mU (by omega:((st.length:Nat):Int)<=64)];refine Az (0,L,2,(oM c),λD an=>?_);refine F6 (J:=qJ L) ds.length an eC (mGa st[j]? (FW x)) iE
    (λi d f s2=>(sO s2 c f)) (λd s2=>(rO s2 c)) ?_ ?_ G_ F7
   .rintro i d y o f s2 ao ⟨rfl,hy⟩ Kt p;have r:=qW s2 c;rw[ArY,mJ f] at r;simp at r;subst r;have u:mAY i:=aA;refine(zL (mAK ds[i] (hd _ s2 i f)));rw[ArX];by_cases g1:1<=(st[i]).length
    .rw[mOb mAM];refine Au (8,mJS p st[i] u);unfold FW;rw[mU g1,AtS];show V.bl _=V.bl _;congr 1;exact aDV
    rw[mOb mAN];refine Az (mJS p st[i] u);unfold FW;rw[mS g1];rfl
   intro d ys s2 hy ap aq;have z:ys=aNi.map V.bl:=by
    apply AsJ;intro j;rw[ArY,ArY]
    cases e:ys[j]? with
    |none=>
     have:=iV;rw[lN];rfl
    |some v=>
     obtain⟨n,C,G⟩:=wI aq;rw[C,G];rfl
   refine(D,aNi,2,mGb z,0,5);rw[show aNi.all id=st.all FW by rw[Atw];rfl]
   cases I:st.all FW with
   |false=>
    exact Au (g d s2 (by unfold G6;rw[I,At5,AuD]))
   |true=>
    refine Az (0,L,2,(mCc s2 c),λM N=>?_);refine F6 (J:=qJ L) ds.length N eC (λj v _=>∃x,st[j]? =aY /\v=if jI=true then oK x else .Ax) iE
     (λi o f s3=>(mNU c f)) (λo s3=>(rO s3 (qA c))) ?_ ?_ G_ F7
    .rintro i o y ar f s3 ao ⟨rfl,hy⟩ Kt p;have r:=qW s3 (qA c);rw[ArY,mJ f] at r;simp at r;subst r;have u:mAY i:=aA;have O:=hd _ aAI i f;rw[HI] at O;refine(zL (0,ds[i],3,O,by rw[ArX];exact uT hx u,12,λas s5=>?_));rw[Anm,Ano];exact mV p s5 (st[i],mJ u,2)
    intro o ys s3 hy au av;have z:ys=st.map λx=>if jI=true then rX x else .Ax:=by
     apply AsJ;intro j;rw[ArY]
     cases e:ys[j]? with
     |none=>
      have:=iV;rw[lN];rfl
     |some v=>
      obtain⟨n,C,G⟩:=wI av;rw[C,G];rfl
    have U:=aAI;have aw:nI ys.all Fh:=by rw[z,Atw,AsL];intro x _;simp;split<;>rfl
    have ax:mN9 ys:=(xF z Anp st);refine(mNh M aw);rw[bS,ax]
    cases Y:st.all λx=>jI with
    |false=>
     exact Au (g o U (by unfold G6;rw[Y,AuD,AuD]))
    |true=>
     refine Az (0,k _ o U ?_);unfold P6;rw[mK (by unfold G6;rw[Y,I,mU (l,m)];rfl)];refine(M,2,s2.free N,5);rw[hy,z];congr 2;apply AsU;intro x hx';rw[mK (vW Y x hx')]
  rw[mS (by omega:¬((st.length:Nat):Int)<=64)];exact mOc m q.2
 rw[mAN (st.length:Nat)];exact Az (0,mOc l q.1)
end
end Vp
namespace Vp
open PySem PySem.Spec L2
section
variable {X:Cx} {K:PySem.W.Frag}
def Mi(ns:bG):List Int:=PyProof.Rows.firstMet aNj ns.length
def QZ(K:PySem.W.Frag):aAs:=λvs H Q=>∃(a:Addr)(ns:bG),vs=aCD /\ iC /\ns.length<=4000/\∀l,H l=none->Q eR (nX l (mJT ns))
theorem Ant(hc:fN):DW X (oE "set") (QZ X.K):=by intro pins s σ H vs us Q c r h;obtain⟨a,ns,rfl,hs,d,q⟩:=h;obtain⟨f,g,i,_⟩:=c.list hs;rw[aBu];have hsz:f.toArray.size=ns.length:=(mAp As2 (by have:=g.length;rw[ArX] at this;omega));refine PySem.call_set_list (c.ok.hd hc) i.isList g.ints (by rw[hsz];show ns.length+1<4096;omega) λh' tk j kp=>?_;rw[hsz] at j;exact(eP,_,c.DV (t':=tk) (λb o e=>kp b o fK e) aF (show C9 X.prog X.w _ h' _ (mJT ns) from j),2,q _ (c.Av.BC aF))
theorem Anu(a:cH)(hc:fN):DW X (oE "set") (QZ K):=by subst a;exact Ant hc
theorem Anv:DW X aEr (λxs H Q=>∃p S n,xs=[aS]/\H p=mB (.set S n)/\sY n):=by intro pins s σ H xs us Q a r h;obtain⟨p,S,n,rfl,b,q⟩:=h;rw[aBu];obtain⟨o,es,ep,t,c,hex,hd,_,_,hb,hf,d⟩:=mC a.Av b;subst d;have e:es.size<4096:=hb;exact PySem.call_len_set c hex hd hf aA (mJU a.BW)
end
end Vp
namespace Vp
open PySem PySem.Spec L2 Vf
section
variable {P:Program} {w:World} {K:PySem.W.Frag} {mg:aN} {base:Heap} {t:Aw}
theorem Ws:∀(l acc:bG),aU5.length<=acc.length+l.length/\(aU5.length=acc.length+l.length↔l.Nodup/\∀x∈l,x∉acc)
 |[],acc=>(aF,9)
 |x::l,acc=>by
  rw[Ati];by_cases h:x∈acc
  .have e:mOd x=acc:=by
    unfold PyProof.Rows.step_dedup;simp[h]
   rw[e];have a:=Ws l acc;grind
  have e:mOd x=acc++[x]:=by unfold PyProof.Rows.step_dedup;simp[h]
  rw[e];have a:=Ws l (acc++[x]);grind
theorem Anw(ns:bG):decide ((Mi ns).length=ns.length)=decide ns.Nodup:=by
 have e:(mFl oP).map aNj=ns:=by apply AsJ;grind
 have h:=(Ws ns []).2;rw[AuV,AsZ] at h;apply At0.mpr;show(((mFl oP).map aNj).foldl PyProof.Rows.step_dedup []).length=ns.length↔_;grind
theorem Anx(l:aB):decide (l.map λn=>((n:Nat):Int)).Nodup=decide l.Nodup:=by grind
def J2(n Aq:Nat)(a:aB):Bool:=decide (a.length<=Aq)&&(decide a.Nodup&&a.all λx=>decide (x<n))
def Any(K:PySem.W.Frag):Sp:=λvs H Q _=>∃(a:Addr)(b:aB)(n Aq:Nat),vs=[aI,lP,xY mE]/\xX b/\Aq<=12/\∀H',aO ->mAS (J2 n Aq b)
abbrev Anz:List Str:=aU6
theorem Wt:AD aU6 aLZ (A0 Vj):=aG
theorem An0(T:aD):A4 P w K mg base A9 1 t.LR t.Ac3 aLZ (Any K):=by
 refine vL T.LR.F.ok Wt
 .obtain⟨a,d,n,Aq,rfl,_⟩:=h;rfl
 obtain⟨a,d,n,Aq,rfl,f,hm,k⟩:=h;refine(_,(Ao (A3 (OB (mAQ DB aAE aW) (OB (mAQ CL (mGj Anv (mT (QW (mJV Anu) rfl T.Akz Ak5 aBM))) aAE) (JY (mF9 (mT (Dk rfl Wt.nd aC4 (qD ("number",3,) Anz Vj) (pE 3 Wt.nd) cI (pZ (mAQ OJ bF aQ)))))))))),5);unfold J2 at k;refine(77,0,mH f,0,55);rw[ArX];by_cases c1:d.length<=Aq
 .rw[mU (by omega:((d.length:Nat):Int)<=(Aq:Int))];rw[mU c1,AtS] at k;have g:=f;rw[HI] at g;refine Au (77,0,g,34,λl m=>?_);have s1:=Ab.Aa (o:= mJT aH7) m;refine(l,3,Af,77,0,mH aDd,79);rw[ArX,Fp];have p:=Anw aH7;rw[ArX,Anx] at p;rw[p]
  cases q:decide d.Nodup with
  |false=>
   rw[q,At5] at k;exact Az (k _ s1)
  |true=>
   rw[q,AtS] at k;refine Au (77,2,(_,aDd),λD r=>?_);refine F6 (J:=aAq) d.length r eC (mGa d[j]? (decide (x<n))) iE
    (λi u z s2=>(mJv aDd z)) (λu s2=>(mJw aDd)) ?_ ?_ G_ F7
   .rintro i u y C z s2 G ⟨rfl,hy⟩ Kt I;have L:=xQ s2.seq aDd;rw[ArY,mJ z] at L;simp at L;subst L;refine(zL (16,8,mJS I d[i] z));show V.bl _=V.bl _;congr 1;exact aDV
   intro u ys s2 hy M N;have O:ys=aU7.map V.bl:=by
    apply AsJ;intro j;rw[ArY,ArY]
    cases e:ys[j]? with
    |none=>
     have:=iV;rw[lN];rfl
    |some v=>
     obtain⟨n,U,Y⟩:=wI N;rw[U,Y];rfl
   refine(D,d.map λx=>decide (x<n),2,mGb O,5);rw[show aU7.all id=d.all λx=>decide (x<n) by rw[Atw];rfl];exact k u lS
 rw[mS (by omega:¬((d.length:Nat):Int)<=(Aq:Int))];rw[mS c1,At5] at k;exact Az (k H fA)
theorem Wu:∀(n x y:Nat),x+y<=n->x&&&y=0->x|||y=x+y
 |0,x,y,h,_=>by
  grind
 |n+1,x,y,h,hd=>by
  by_cases h0:x=0/\y=0
  .obtain⟨rfl,rfl⟩:=h0;rfl
  have hd2:x/2&&&y/2=0:=(mBT Nat.and_div_two hd);have a:=Wu n (x/2) (y/2) aA hd2;rw[<-Nat.or_div_two] at a;have b:(x|||y)%2=1↔x%2=1\/y%2=1:=Nat.or_mod_two_eq_one;have c:(x&&&y)%2=1↔x%2=1/\y%2=1:=Nat.and_mod_two_eq_one;rw[hd] at c;omega
theorem S1(a b:Nat):a - aAe=Ch a b:=by
 have h:aAe|||Ch a b=aAe+Ch a b:=Wu _ _ _ aF (by
  apply Atg;intro i;rw[Atd,Hq,Atd,Avo]
  cases aAd<;>cases pM i<;>rfl)
 have c:aAe|||Ch a b=a:=by
  apply Atg;intro i;rw[Ate,Hq,Atd]
  cases aAd<;>cases pM i<;>rfl
 omega
theorem Aec(a b:Nat):a&&&b<=a:=Nat.and_le_left
theorem Aed(a b:Nat):mCk Builtin.bitAnd=((a&&&b:Nat):Int):=by rfl
theorem Wv(a b:Nat):mCk Builtin.bitOr=((a|||b:Nat):Int):=by unfold Builtin.bitOr Builtin.bitAnd;rw[mOe (0:Int) (a:Int),aU8];have h:∀c:Nat,(oA Builtin.bitNot (c:Int))=(c:Int):=λc=>aNk;simp only[h,Int.toNat_natCast]
theorem Aee(a b:Nat):aU9=((Ch a b:Nat):Int):=by unfold Builtin.bitAnd;rw[mU (by omega:(0:Int)<=(a:Int)),aU8];have h:(oA Builtin.bitNot (b:Int))=(b:Int):=aNk;simp only[h,Int.toNat_natCast];rw[<-S1];have:=Aec a b;omega
theorem Aef(a j:Nat):(a:Int)*2 ^ ((j:Nat):Int).toNat=((a<<<j:Nat):Int):=by
 rw[AtN,Awi]
 push_cast
 rfl
theorem An1(a j:Nat):(a:Int)/2 ^ ((j:Nat):Int).toNat=((a>>>j:Nat):Int):=by
 rw[AtN,Nat.shiftRight_eq_div_pow]
 push_cast
 rfl
theorem Aeg(a b:Nat):mCk Builtin.bitXor=((a^^^b:Nat):Int):=by
 unfold Builtin.bitXor;rw[Aed,Wv];have c:(a^^^b)|||aAe=(a^^^b)+aAe:=Wu _ _ _ aF (by
  apply Atg;intro i;rw[Atd,AuR,Atd,Avo]
  cases aAd<;>cases pM i<;>rfl)
 have d:(a^^^b)|||aAe=a|||b:=by apply Atg;grind
 omega
section
variable {X:Cx}
def rN(C:Nat->Nat->Prop)(g:kN):R2:=λx y H Q=>∃a b:Nat,x= aC7 /\y= aBT /\C a b/\mGs sY g
theorem Ww(h:Bt X f (rI C g))(hc:∀a b:Nat,D a b->mCk C)(e:∀a b:Nat,D a b->mCk g= mGs mE n):Bt X f (rN D n):=by intro pins s σ H x y v u Q c d i q;obtain⟨a,b,rfl,rfl,hd,q⟩:=q;refine mOf (8,hc a b hd,5);rw[e a b hd];exact q
theorem P8(h:Bt X f (DO g))(e:∀a b:Nat,mCk g= mGs mE n):Bt X f (mEb n):=by intro pins s σ H x y v u Q c d i q;obtain⟨a,b,rfl,rfl,_,q⟩:=q;refine mOf aHP;rw[e a b];exact q
theorem Hc:Bt X aGt aNl:=P8 Uk λa b=>by rw[Aed]
theorem J3:Bt X aRc aId:=P8 AhR λa b=>by rw[Wv]
theorem Aeh:Bt X aRe aVa:=P8 AhS λa b=>by rw[Aeg]
theorem FX:Bt X aRi aId:=P8 AhU λa b=>by rw[Wv]
theorem G7:Bt X aUj (rN (λa j=>a<2 ^ 1000/\j<=1000) (·<<<·)):=Ww Amh (λa j h=>(4,4,by rw[Int.natAbs_natCast];exact Ass h.1 (As5 bB bB))) λa j _=>by rw[Aef]
theorem Aei:Bt X aRb (mEb (·>>>·)):=Ww AhQ (λa j _=>by omega) λa j _=>by rw[An1]
theorem NO:Bt X aGt (λx y H Q=>∃a b:Nat,x= aC7 /\y= mE aVb /\mGs sY Ch):=by intro pins s σ H x y v u Q c d e q;obtain⟨a,b,rfl,rfl,q⟩:=q;refine Uk pins s σ H _ _ v u Q c d e aHP;show uO mQ aU9;rw[Aee a b];exact q
end
structure Aej(T:BR):Prop where
 AW:T.AW<=1000
 cuts:T.cuts<2 ^ 1000
 inner:T.inner<2 ^ 1000
 B2:∀n,T.B2 n<2 ^ 1000
structure PlF(T:BR)(fs:dO)(d f:Addr):Prop where
 AW:nY ("half":Str)=some (mQ (T.AW:Nat))
 cuts:nY ("cuts":Str)=some (mQ (T.cuts:Nat))
 inner:nY ("inner":Str)=some (mQ (T.inner:Nat))
 BP:nY ("doors":Str)=some (nC d)
 Wx:nY ("fitting":Str)=mD3 f
 first:nY ("first":Str)=oZ mQ (T.first:Nat)
 done:nY ("done":Str)=some (mQ (T.done:Nat))
 n1:nY ("after_syllable":Str)=none
 n2:nY ("before_syllable":Str)=none
 n3:nY ("after_shape":Str)=none
structure G8(t:Aw)(H:Hp)(p:Addr)(T:BR):Prop where
 b:Aej T
 ex:∃dx fs d f,H p=aNm /\PlF T fs d f/\F9 H d T.BP/\H f=oI aVc
theorem Wy(T:BR)(n:Nat)(h:n<=2):BX aVc ((n:Nat):Int)=some (mQ (T.B2 n:Nat)):=by
 apply AZ
 match n,h with
 |0,_=>rfl
 |1,_=>rfl
 |2,_=>rfl
def Aek(t:Aw):Sp:=λvs H Q _=>∃(p:Addr)(T:BR)(pl n:Nat)(a:Bool),vs=aVd /\G8 t H p T/\n<=2/\mOg Dt
theorem Mj:AD ["self","places","length","ends_word","standing","met","reached","door"] aCQ (A0 Aa5):=aG
theorem Ael(b:aD):A4 P w K mg base A9 1 t.Kv t.AbV aCQ (Aek t):=by
 refine oW b.Kv.F.ok Mj
 .obtain⟨p,T,pl,n,g,rfl,_⟩:=h;rfl
 obtain⟨p,T,pl,n,g,rfl,hp,l,k⟩:=h;obtain⟨hb,dx,fs,d,f,m,hF,o,u⟩:=hp;obtain⟨x,z,B,C⟩:=o;refine(_,(Ak (qE Mj.nd (uW aQ (sN aX aW)))
  (Ak (nG (xT bI) aH3)
  (Ak (AU (D9 bF) (Ak (sA Mj.nd (uW bI aX))
  (Ao (qE Mj.nd (AE J3 (AE Aeh bI bQ) (zR bQ))))) AY)
  (Ak (tG Mj.nd (AE G7 (uW bI aX) Ar))
  (Ak (rJ aAH (oC 7 Mj.nd) (Ao (nG (qR (uW bI (uE 7))) (Ao (Hw (i:=6) Mj.nd rfl eG (uE 7) FX)))))
  (oL cC)))))),5)
 have D:mOh x[j]?:=λj pc e=>by have hj:j<T.BP.length:=(wM B e);exact(mOi C)
 refine(0,83,194,nO u,Wy T n l,13,0,79);rw[show decide (mQ ((pl&&&T.B2 n:Nat):Int)=iG)=decide (pl&&&T.B2 n=0) from Fp _ 0];have fin:∀(st G:Nat),aIe=T.BP.foldl kX G->∀(i:Nat)(r:Nat),i=T.BP.length->r=(mGt i).foldl kX G->Q (mE (r:Int)) H:=by intro st G e i r I J;rw[I,AsC,<-e] at J;rw[J];exact k
 have loop:∀(st G:Nat)(L:bO),aIe=T.BP.foldl kX G->
  EL (M7 (QG K (mD2 0 "doors")) (EY 7) (Ii (V7 K (CU aNl (Bo 4) (CU (HA K) (Bo 7) (tC cB)))) (Yq 6 (CU (HA K) (Bo 7) aAF) aId) Ih)) (J_ (Bo 6)) {nx:=λ_ H'=>cU,rt:=Q}
   [bP,mAZ mW,aNn,yR g,mW (st:Int),L,mW (G:Int),none] H:=by
  intro st G L he;refine(83,b.Pg,hF.BP,d,2,(oM z),E4 (K:=K) (a:=d) (xs:=nF x.map) (λj σ H1=>∃v,H1=H/\σ=[bP,mAZ mW,aNn,yR g,mW (st:Int),L,mOj kX G,v])
   (58,29) (λj σ H1 _ (_,e,_)=>by rw[e];exact mN z) ?_ ?_)
  .rintro j y σ H1 hj ⟨v,rfl,rfl⟩;rw[ArY] at hj;obtain⟨pc,M,rfl⟩:mJB x[j]?:=by
    cases e:x[j]? with
    |none=>rw[e] at hj;cases hj
    |some pc=>rw[e] at hj;exact aMR
   obtain⟨dd,N,O⟩:=D j pc M;have U:(mGt (j+1)).foldl kX G=(if st&&&dd.1≠0 then aBU.foldl kX G|||dd.2 else aBU.foldl kX G):=by rw[AsA,N,At4];rfl
   rw[U];generalize aBU.foldl kX G=ac;refine(mOk O 0);by_cases c:st&&&dd.1=0
   .rw[show(mGu st dd.1)=false by rw[c];rfl];refine aVe;rw[vA q c];rfl
   rw[show(mGu st dd.1)=true by simp;omega];refine mOl O 1;rw[mK c];rfl
  rintro σ H1 ⟨v,rfl,rfl⟩;exact(0,fin st G he (nF x.map).length _ (pW ArX B) rfl)
 by_cases c0:pl&&&T.B2 n=0
 .rw[mU c0];have e:aIe=0:=(by unfold Dt;rw[mK c0]);rw[e] at k;exact Au k
 rw[mS c0];have e:aIe=T.BP.foldl (λr d=>if aVf&&&d.1≠0 then r|||d.2 else r) ((aVf&&&T.inner)<<<1):=by unfold Dt;rw[mM c0]
 refine Az aAD;have Y:∀st:Nat,st&&&T.inner<2 ^ 1000:=λst=>mOm hb.inner
 cases g with
 |false=>
  refine Az aVg
 |true=>
  refine Au (0,83,148,13,16,13,0,83,b.IF,hF.AW,8,(Au4 (Aec _ _) (mOm (hb.B2 n)),hb.AW),13,5);refine aVg
def An3(t:Aw):Sp:=λvs H Q _=>∃(p:Addr)(T:BR)(pl n:Nat)(a:Bool),vs=aVd /\G8 t H p T/\n<=2/\mOg before
theorem NP:AD ["self","places","length","ends_word","standing","door","met"] aCQ (A0 Aa6):=aG
theorem Wz(b:aD):A4 P w K mg base A9 1 t.Iy t.AbW aCQ (An3 t):=by
 refine b.Iy.F.ok NP cM (λg A outer s H vs Q E l h=>?_)
 .obtain⟨p,T,pl,n,m,rfl,_⟩:=h;rfl
 obtain⟨p,T,pl,n,m,rfl,hp,o,k⟩:=h;obtain⟨hb,dx,fs,d,f,u,hF,x,z⟩:=hp;obtain⟨B,C,D,G⟩:=x;refine(_,(Ak (nG (xT aQ) aH3)
  (Ak (qE NP.nd (uW (AE Aei aQ Ar) aX))
  (Ak (rJ aAH (oC 5 NP.nd) (Ao (nG (qR (uW aQ (uE 5))) (Ao (Hw (i:=4) NP.nd rfl eG (uE 5) FX)))))
  (Ak (AU (D9 bF) (Ak (tG NP.nd (uW (AE Aei bI aX) aX))
  (Ao (qE NP.nd (AE J3 (mCl bI aX) cC)))) AY)
  (vM (uW bI (sN aX aW))))))),5)
 have I:mOh B[j]?:=λj pc e=>by have hj:j<T.BP.length:=(wM D e);exact(mOi G)
 refine iF;rw[show decide (mQ ((pl:Nat):Int)=iG)=decide (pl=0) from Fp _ 0];by_cases c0:pl=0
 .rw[mU c0];have e:before T pl n m=0:=(by unfold before;rw[mK c0]);rw[e] at k;exact Au k
 rw[mS c0];have e:before T pl n m=(if m then mBk aNo|||(mHF aNo) else aNo)&&&T.B2 n:=by unfold before;rw[mM c0]
 rw[e] at k;refine Az (0,_,(1),29,85,63,204,5);refine(63,b.Pg,hF.BP,d,2,(oM C),E4 (K:=K) (a:=d) (xs:=nF B.map) (λj σ H1=>∃v,H1=H/\σ=[bP,mAZ mW,aNn,yR m,mOj aBV aBW,v,none])
  (58,29) (λj σ H1 _ (_,e,_)=>by rw[e];exact mN C) ?_ ?_)
 .rintro j y σ H1 hj ⟨v,rfl,rfl⟩;rw[ArY] at hj;obtain⟨pc,J,rfl⟩:mJB B[j]?:=by
   cases e:B[j]? with
   |none=>rw[e] at hj;cases hj
   |some pc=>rw[e] at hj;exact aMR
  obtain⟨dd,L,M⟩:=I j pc J;have N:(mGt (j+1)).foldl aBV aBW=(if pl&&&dd.2≠0 then aBU.foldl aBV aBW|||dd.1 else aBU.foldl aBV aBW):=by rw[AsA,L,At4];rfl
  rw[N];generalize aBU.foldl aBV aBW=O;refine(mOk M 1);by_cases c:pl&&&dd.2=0
  .rw[show(mGu pl dd.2)=false by rw[c];rfl];refine aVe;rw[vA q c];rfl
  rw[show(mGu pl dd.2)=true by simp;omega];refine mOl M 0;rw[mK c];rfl
 rintro σ H1 ⟨v,rfl,rfl⟩;have hlen:tO nF B.map T.BP.length:=(pW ArX D);rw[hlen,AsC];generalize T.BP.foldl aBV aBW=st at*;refine aAD
 cases m with
 |false=>
  exact Az aVh
 |true=>
  refine Au (0,63,b.IF,hF.AW,13,63,148,13,0,63,148,0,8,0,13,5);exact aVh
end
end Vp
namespace Vp
open PySem L2 Vf
theorem Aem(h:aNp)(n:Nat):(l++oX n 0).takeWhile (λc=>c != 0)=l:=by
 rw[List.takeWhile_append_of_pos (λa ha=>by simpa using h a ha)]
 cases n with
 |zero=>simp
 |succ n=>rw[AtC,List.takeWhile_cons];simp
theorem An4(h:aNp):Kgz2.okWord aEZ=(FW l&&mJk l.all):=by
 have a:aEZ.takeWhile (λc=>c != 0)=l:=Aem h _;unfold Kgz2.okWord;simp only[a];unfold FW;have hd:(aEZ.drop l.length).all (·==0)=true:=by unfold C5;simp
 rw[hd,Bool.and_true];by_cases b:l.length<=23
 .have d:oO (aEZ.length==24):=by
   unfold C5;grind
  rw[d,AtS]
 rw[mS b];simp
theorem An5(h:aNp):Kgz2.wordOf aEZ=l:=Aem h _
theorem An6(h:∀l∈st,∀z∈l,z≠0)(Aq:Nat):aVi=(G6 st&&decide (1<=Aq/\Aq<=12)):=by
 unfold Kgz2.okStock G6;have e:gU.all Kgz2.okWord=aU0:=by
  clear Aq
  induction st with
  |nil=>rfl
  |cons a r b=>
   rw[Asn,AtJ,AtJ,AtJ,b λl c=>pH h l c,An4 (h a AsG)];grind
 grind
theorem An7(n Aq:Nat)(a:aB)(h:a≠[]):mJW n a=J2 n Aq a:=by unfold Kgz2.isRow J2;grind
theorem Aen(n Aq:Nat)(a:aB):(Aq<a.length\/(a.length≠0/\mJW n a=false))↔J2 n Aq a=false:=by
 by_cases h:a=[]
 .subst h;simp[J2]
 have b:a.length≠0:=λe=>h (Av9 e);rw[An7 n Aq a h];constructor
 .rintro(q|q)
  .unfold J2;grind
  exact q.2
 exact λq=> xC b q
end Vp
namespace Vp
open Vf
def Cq:Nat-> gA -> aB
 |w,[]=>if w=4 then[] else[6]
 |w,sh::r=>if sh.A2=[] then Cq fC r
  else(if fC=4 then[] else[BB fC+4])++aNq++Cq aBX r
def EB(sh:BU):Prop:=sh.Bk<=3/\∀x∈sh.A2,x<=3
theorem NS(l:Nat):BE 4 l=4:=by unfold BE;simp
theorem W1(hw:w<=3)(a:l<=3):BE w l≠4:=by have:=Jw hw a;omega
theorem NT(w:Nat):BB w<=2:=by unfold BB;split<;>(try split)<;>omega
theorem Aeo:∀(a:gA)(w:Nat),w<=3-> aIf ->Cq w a≠[]
 |[],w,h,_=>by unfold Cq;rw[fF];simp
 |sh::r,w,h,hs=>by
  have b:=aIg;unfold Cq;split
  .exact Aeo r _ (Jw h b.1) λs x=>aIh
  rw[mM (W1 h b.1)];simp
theorem Aep(h:l≠[]):l=l.dropLast++[aVj]:=by rw[Aud h];exact(List.dropLast_concat_getLast h).symm
theorem NU(h:l≠[])(hb:mEP b):aVj <=b:=by rw[Aud h];exact hb _ (List.getLast_mem h)
theorem W2:∀(l:aB),mEM l (oX l.length 0)=l
 |[]=>rfl
 |x::r=>by simp[List.replicate_succ,W2 r]
theorem W4:∀(a:gA)(pre b:aB)(w:Nat),w<=3->pre.length=b.length-> aIf ->
 Jb (a.foldl CZ (pre++[w],b++[4],))=mEM (pre.map BB) b++Cq w a
 |[],pre,b,w,h,c,_=>by
  show(if pre++[w]=[] then[] else mEM ((pre++[w]).dropLast.map BB++[2]) (b++[4]))=_;rw[Cq,mM (show¬pre++[w]=[] by simp),mM (show¬w=4 by omega),List.dropLast_concat,AvI (mR c)];rfl
 |sh::r,pre,b,w,h,c,hs=>by
  have d:=aIg;have f:aIi:=λs x=>aIh;rw[Ati];have g:CZ (pre++[w],b++[4],) sh=if sh.A2=[] then(pre++[fC],b++[4],) else(pre++[fC]++sh.A2,b++[4]++aCf,):=by unfold CZ;simp only[Sj]
  rw[g,Cq];by_cases e:sh.A2=[]
  .rw[bU,bU];exact W4 r pre b _ (Jw h d.1) c f
  rw[bN,bN,mM (W1 h d.1)];have i:pre++[fC]++sh.A2=(pre++[fC]++sh.A2.dropLast)++[aBX]:=by
   conv=>lhs;rw[Aep e]
   simp
  have j:b++[4]++aCf=(b++[4]++aHV)++[4]:=(by unfold Gg;simp);rw[i,j,W4 r _ _ _ (NU e d.2) (by simp[c]) f];rw[As7,As7,At3 b,At3 (pre.map BB),AvI (mR c)];have e3:aHV=List.replicate (aNq.length) 0:=aC;rw[e3,AvI aC,W2];simp
theorem Aeq:∀(a:gA),aIf -> aPs=Cq 4 a
 |[],_=>rfl
 |sh::r,hs=>by
  have b:aIi:=λs x=>aIh;rw[Ati];have c:CZ ([],[],) sh=if sh.A2=[] then([],[],) else(sh.A2,aCf,):=by rfl
  rw[c,Cq,NS];by_cases e:sh.A2=[]
  .rw[bU,bU];exact Aeq r b
  rw[bN,bN,bE,Atz];have d:(sh.A2,aCf,)=(sh.A2.dropLast++[aBX],oX aNq.length 0++[4],):=by rw[<-Aep e];unfold Gg;simp
  rw[d,W4 r _ _ _ (NU e (aIg).2) aC b];congr 1;exact W2 _
theorem An8(a:gA)(hs:aIf):To a=Cq 4 a:=Aeq a hs
theorem W5:∀(b:gA)(w:Nat),w<=4->(∀s∈b,EB s)->(Cq w b).length=D_ b+(if w=4 then 0 else 1)
 |[],w,h,_=>by
  unfold Cq D_;split<;>rfl
 |sh::r,w,h,hs=>by
  have c:=aIg;have d:aIi:=λs x=>aIh;have hw:fC <=4/\(fC=4↔w=4):=by
   by_cases e:w=4
   .subst e;rw[NS];simp
   have:=Jw (a:=w) aA c.1;omega
  have f:D_ aIj=sh.A2.length+D_ r:=by unfold D_ AM;rw[Asn,Ati,Vf.Tt,AsZ]
  unfold Cq;split
  .rename_i e;rw[W5 r _ hw.1 d,f,e];grind
  rename_i e;have hp:aMC:=by
   cases g:sh.A2 with
   |nil=>exact nL g e
   |cons=>simp
  have i:=NU e c.2;rw[Asi,Asi,W5 r _ aA d,f,mM (by omega:¬ aBX=4),ArX,Av0];grind
section
variable (T:BR)
def NV(w p:Nat)(a:gA):Prop:=Cq w a≠[]/\C8 T (Cq w a) p
def HK(w P:Nat)(a:gA):Prop:=∃p,xA p=true/\NV T w p a
def KC(P:Nat)(ws:aB):Nat:=ws.foldl (λP x=>aNr) P
def CQ(w P:Nat)(sh:BU):gY:=
 if sh.A2=[] then(fC,P,)
 else(aBX,aVk,)
theorem Aer(P s:Nat)(R:aB):(mEc (s::R))↔∃p,(Dt T P (s%4) (decide (4<=s))).testBit p=true/\C8 T R p:=by
 constructor
 .rintro⟨p,hp,y,hy,ha⟩;exact(y,(Qw ..).mpr (mO p hp hy),ha)
 rintro⟨y,hy,ha⟩;obtain⟨p,hp,hs⟩:=(Qw ..).mp hy;exact(p,hp,y,hs,ha)
theorem An9(P x:Nat)(R:aB):(mEc (BB x::R))↔∃p,aNr.testBit p=true/\C8 T R p:=by have h:=NT x;rw[Aer,Nat.mod_eq_of_lt aA,aBr]
theorem AnA(P x:Nat)(R:aB):(mEc ((BB x+4)::R))↔∃p,(Dt T P (BB x) true).testBit p=true/\C8 T R p:=by have h:=NT x;rw[Aer,show(BB x+4)%4=BB x by omega,mU aA]
theorem W6:∀(ws:aB)(P:Nat)(R:aB),(mEc (ws.map BB++R))↔∃p,(KC T P ws).testBit p=true/\C8 T R p
 |[],P,R=>Iff.rfl
 |x::r,P,R=>by
  rw[Asn,At8,An9,W6 r];rfl
theorem Aes(w P:Nat)(sh:BU)(r:gA)(hw:jK)(a:EB sh)(b:aIi):HK T w P aIj ↔HK T (aIk).1 (aIk).2 r:=by
 unfold CQ;by_cases e:sh.A2=[]
 .rw[bU];unfold HK NV;rw[Cq,bU]
 rw[bN];have c:=Aeo r _ (NU e a.2) b;have key:(mEc (Cq w aIj))↔∃p,aVk.testBit p=true/\C8 T (Cq aBX r) p:=by
  rw[Cq,bN];by_cases d:fC=4
  .rw[mK d,mK d,Atz,W6]
  rw[mM d,mM d,At3,At8,Atz,AnA,W6]
 have f:Cq w aIj ≠[]:=by rw[Cq,bN];simp_all
 unfold HK NV;grind
theorem AnB(w p:Nat)(hw:jK):NV T w p []↔w≠4/\ aNs.testBit p=true:=by
 unfold NV Cq;by_cases e:w=4
 .rw[bU];simp[e]
 rw[bN,Qx];simp only[C8];grind
theorem AnC(w P:Nat)(sh:BU):(aIk).1=if sh.A2=[] then fC else sh.A2.getLast?.getD 0:=by unfold CQ;split<;>rfl
theorem NX(w P:Nat)(sh:BU)(hw:jK)(h:EB sh):(aIk).1<=4:=by
 rw[AnC];split
 .by_cases e:w=4
  .subst e;rw[NS];omega
  have:=Jw (a:=w) aA h.1;omega
 rename_i e;have:=NU e h.2;omega
end
def Wd.sh(a:Wd)(m:Nat):BU:=if m=1 then a.CO else a.DF
def Cb:dV ->Nat
 |[]=>0
 |a::_=>a.vf
theorem S3(a:Wd)(q:dV):CP (a::q)=aIl::CP q:=by
 cases q with
 |nil=>rfl
 |cons b r=>rfl
structure DR(a:Wd):Prop where
 vf:a.vf<=1
 s0:EB a.DF
 s1:EB a.CO
theorem DR.sh(h:DR a)(m:Nat):EB (a.sh m):=by
 unfold Wd.sh;split
 .exact h.s1
 exact h.s0
theorem P9:∀(q:dV),aNt ->∀s∈ aDh,EB s
 |[],_,s,hs=>by simp[CP] at hs
 |a::q,h,s,hs=>by
  rw[S3] at hs;rcases pN hs with rfl|hs
  .exact hR.sh _
  exact P9 q aVl s hs
theorem PB(h:aNt):Cb q<=1:=by
 cases q with
 |nil=>exact aR
 |cons a r=>exact hR.vf
def KD(T:BR)(m w p:Nat)(q:dV):Prop:=Cb q=m/\NV T w p aDh
def IM(T:BR)(m w P:Nat)(q:dV):Prop:=Cb q=m/\HK T w P aDh
theorem NY(T:BR)(m w P:Nat)(q:dV):IM T m w P q↔∃p,xA p=true/\KD T m w p q:=by unfold IM KD HK;grind
theorem W7(T:BR)(m w P:Nat)(a:Wd)(q:dV)(hw:jK)(ha:DR a)(hq:∀b∈q,DR b):
 IM T m w P (a::q)↔a.vf=m/\IM T (Cb q) (CQ T w P aIl).1 (CQ T w P aIl).2 q:=by
 unfold IM;rw[S3,Aes T w P _ _ hw (ha.sh _) (rD P9)];constructor
 .rintro⟨h,r⟩;exact(mO h rfl r)
 rintro⟨h,_,r⟩;exact(h,r)
theorem Eb(p x:Nat):((1<<<p:Nat)).testBit x=true↔x=p:=by rw[AsE,AtP,Aup];exact eq_comm
theorem W8(T:BR)(m w p:Nat)(q:dV):KD T m w p q↔IM T m w (1<<<p) q:=by
 rw[NY];constructor
 .intro h;exact(p,mGv p,h)
 rintro⟨x,hx,h⟩;rw[Eb] at hx;subst hx;exact h
theorem W9(T:BR)(m w p:Nat)(hw:jK):KD T m w p []↔m=0/\w≠4/\ aNs.testBit p=true:=by
 unfold KD;rw[show CP []=[] from rfl,AnB T w p hw];constructor
 .rintro⟨h,r⟩;exact(h.symm,r)
 rintro⟨h,r⟩;exact(h.symm,r)
section
variable (m:Bi)
def J4(c:Bq):List aNu:=((oP c.way.length).drop c.place).map λj=>(c.way.getD j 0,mBn (mO c.foot c.way j),)
def Aet(c d:Bq):Prop:=c.foot=d.foot/\J4 m c=J4 m d
theorem Aeu(c:Bq):(J4 m c).length=c.way.length - c.place:=by unfold J4;simp
theorem Aev(c:Bq)(h:c.place<c.way.length):J4 m c=(aJY,mBn c,)::J4 m aF0:=by unfold J4;rw[As8 fE];simp
theorem AnD:∀(n:Nat)(q a:Nat)(c d:Bq),aU[q]? =bT -> aU[a]? =mB d->c.way.length - c.place=n->Aet m c d->∀(l:aB)(Am:Bool),
 mCV l ↔C8 aJ l (tP a Am):=by
 intro n
 induction n with
 |zero=>
  intro q a c d hc hd b _;obtain⟨_,_,_,_,_,hp⟩:=aF2;omega
 |succ n f=>
  intro q a c d hc hd b g l Am;obtain⟨_,_,_,_,_,hp⟩:=aF2;obtain⟨_,_,_,_,_,i⟩:=KZ m.feet 0 d (Asl hd)
  cases l with
  |nil=>exact(λh=>mHO hc,λh=>mHO hd)
  |cons s r=>
   have j:=yJ g.2;rw[Aeu,Aeu] at j;have k:=g.2;rw[Aev m c hp,Aev m d i] at k;injection k with o p
   injection o with o u
   have hlen:JR (s%4) c=JR (s%4) d:=(by unfold JR Du;rw[o]);rw[TD m Am s r hc,TD m Am s r hd,hlen,u,<-g.1];by_cases e:c.place+1=c.way.length
   .rw[bU,gZ]
   rw[bN,fF];have:=f (q+1) (a+1) _ _ aP0 (T9 m.feet 0 a d hd aA) aPZ (g.1,p) r (mOn d);rw[this]
end
end Vp
namespace Vp
open Vf
section
variable (T:BR)
theorem Aew(P Q n:Nat)(e:Bool):(mHI (Dt T P n e).testBit Q.testBit)↔∃x,xA x=true/\(before T Q n e).testBit x=true:=by
 constructor
 .rintro⟨y,a,b⟩;obtain⟨x,hx,hs⟩:=(Qw ..).mp a;exact(x,hx,(Qx ..).mpr (mO y b hs))
 rintro⟨x,a,b⟩;obtain⟨y,hy,hs⟩:=(Qx ..).mp b;exact(y,(Qw ..).mpr (mO x a hs),hy)
def KF(Q:Nat)(ws:aB):Nat:=ws.foldr (λx Q=>mJX T) Q
theorem WA:∀(ws:aB)(P Q:Nat),(mHI (KC T P ws).testBit Q.testBit)↔∃x,xA x=true/\(KF T Q ws).testBit x=true
 |[],P,Q=>Iff.rfl
 |x::r,P,Q=>by
  have h:KC T P (x::r)=KC T aNr r:=rfl;have h':KF T Q (x::r)=before T (KF T Q r) (BB x) false:=rfl;rw[h,h',WA r,Aew]
def IN(L:bD)(sh:BU)(w:Nat):Nat:=
 if sh.A2=[] then L fC
 else if w=4 then mJY L
 else mGw (mJY L) (BB fC)
theorem AnE(L:bD)(sh:BU)(w p:Nat)(hw:jK)(hs:EB sh):
 (IN T L sh w).testBit p=true↔∃a,(mGx sh).2.testBit a=true/\(L (mGx sh).1).testBit a=true:=by
 have b:∀Q:Nat,Q.testBit p=true↔∃x,(1<<<p:Nat).testBit x=true/\Q.testBit x=true:=λQ=>by
  constructor
  .intro h;exact(p,mGv p,h)
  rintro⟨x,hx,h⟩;rw[Eb] at hx;subst hx;exact h
 unfold IN CQ;by_cases e:sh.A2=[]
 .rw[bU,bU];exact b _
 rw[bN,bN];by_cases c:w=4
 .subst c;rw[bE,NS,bE];rw[WA];exact b _
 rw[mM c,mM (W1 aA hs.1),WA,Aew];exact b _
abbrev FL:=bD × bD
def G9(later:bD)(st:FL)(sh:BU):FL:=
 if sh.A2=[] then(λw=>st.1 w|||xZ fC,st.2,)
 else(st.1,λl=>if l=sh.Bk then st.2 l|||mJY later else st.2 l,)
def J5(later:kN)(m:Nat)(st:FL)(a:Wd):FL:=if a.vf=m then mOo T else st
def D0(m w:Nat):Nat:=if m=0/\w≠4 then aNs else 0
def Aex(later:kN)(m:Nat)(S:dV):FL:=S.foldl (mJZ T) (D0 T m,λ_=>0,)
def GA(L:bD)(w l:Nat):Nat:=if w=4 then L l else mGw (L l) (BB (BE w l))
def IO(st:FL)(n:Nat)(w:Nat):Nat:=mOp (st.1 w)
def NZ(S:dV)(later:kN)(m w:Nat):Nat:=IO T (Aex T later m S) 4 w
def GB(S:dV):Nat->Nat->Nat->Nat
 |0=>D0 T
 |n+1=>NZ T S (GB S n)
def IP(st:FL)(w p:Nat):Prop:=(st.1 w).testBit p=true\/∃l,l<=3/\ aNv.testBit p=true
theorem AnF(L:bD)(a w p B:Nat)(b:a<=3):(∃l,l<=3/\ aVm.testBit p=true)↔
 (∃l,l<=3/\(GA T L w l).testBit p=true)\/(mOq a).testBit p=true:=by
 have FN:∀l,aVm.testBit p=true↔(GA T L w l).testBit p=true\/(l=a/\(mOq a).testBit p=true):=by
  intro l;unfold GA;by_cases e:l=a
  .subst e;by_cases c:w=4
   .simp[c]
   simp only[mAv c,if_true,true_and,Qx,Nat.testBit_or,Bool.or_eq_true];grind
  simp[e]
 constructor
 .grind
 rintro(⟨l,h,q⟩|q)
 .exact(l,h,(FN l).mpr iS)
 exact(a,b,(FN a).mpr (xC rfl q))
theorem Aey(later:bD)(st:FL)(sh:BU)(w p:Nat)(hs:EB sh):mCm (G9 T later st sh)↔mCm st\/(IN T later sh w).testBit p=true:=by
 unfold IP G9 IN;by_cases e:sh.A2=[]
 .grind
 simp only[mAv e];rw[AnF T _ _ _ _ _ hs.1,or_assoc]
theorem AnG(later:kN)(m:Nat)(st:FL)(a:Wd)(w p:Nat)(ha:DR a):
 IP T (J5 T later m st a) w p↔mCm st\/ aVn:=by
 unfold J5;by_cases e:a.vf=m
 .rw[bU,Aey T _ _ _ _ _ ha.s1,Aey T _ _ _ _ _ ha.s0,or_assoc];have:aVn ↔((IN T (xZ 0) a.DF w).testBit p=true\/(IN T (xZ 1) a.CO w).testBit p=true):=by
   constructor
   .rintro⟨_,i,b,h⟩
    match i,b with
    |0,_=>exact jY
    |1,_=>exact mI h
   rintro(h|h)
   .exact(e,60,4,h)
   exact(e,(1),4,h)
  rw[this]
 rw[bN];simp[e]
theorem Aez(later:kN)(m w p:Nat):∀(S:dV)(st:FL),aNw ->
 (mCm (S.foldl (mJZ T) st)↔mCm st\/∃a∈S,a.vf=m/\∃i,i<=1/\(IN T (xZ i) aIm w).testBit p=true)
 |[],st,_=>by simp
 |a::S,st,h=>by
  rw[Ati,Aez later m w p S _ aVl,AnG T later m st a w p hR,or_assoc];simp
theorem AnH(st:FL)(w p:Nat):(IO T st 4 w).testBit p=true↔IP T st w p:=by
 unfold IO IP;have:∀(n:Nat)(r:Nat),(mOp r).testBit p=true↔yK p=true\/∃l,l<n/\ aNv.testBit p=true:=by
  intro n
  induction n with
  |zero=>intro r;simp
  |succ n a=>
   intro r;rw[Atl,At4,Ati,List.foldl_nil,Ate,Atx,a,or_assoc];grind
 grind
theorem AnI(w p:Nat):¬∃l,l<=3/\(GA T aDi w l).testBit p=true:=by rintro⟨l,_,h⟩;unfold GA before at h;split at h<;>simp at h
theorem J6(S:dV)(c:aNw):∀(n m w p:Nat),m<=1->w<=4->((GB T S n m w).testBit p=true↔∃q:dV,(∀a∈q,a∈S)/\q.length<=n/\KD T m w p q)
 |0,m,w,p,hm,hw=>by
  show(D0 T m w).testBit p=true↔_;constructor
  .intro h;refine([],9,9,5);rw[aNx];unfold D0 at h;grind
  rintro⟨q,_,d,hp⟩;obtain rfl:q=[]:=tY aA;rw[aNx] at hp;unfold D0;rw[mK (hp.1,hp.2.1)];exact hp.2.2
 |n+1,m,w,p,hm,hw=>by
  show(NZ T S (GB T S n) m w).testBit p=true↔_;unfold NZ Aex;rw[AnH,Aez T _ m w p S _ c];have h0:mCm (D0 T m,λ_=>0,)↔KD T m w p []:=by
   rw[aNx];constructor
   .rintro(h|h)
    .simp only[D0] at h;grind
    exact nL h (AnI T w p)
   rintro⟨e,f,g⟩;left;simp only[D0];rw[mK (e,f)];exact g
  rw[h0];have step:∀(a:Wd),a∈S->∀i,i<=1->((IN T (GB T S n i) aIm w).testBit p=true↔∃q:dV,aVo /\q.length<=n/\Cb q=i/\IM T i (mGx aIm).1 (mGx aIm).2 q):=by
   intro a ha i j;rw[AnE T _ _ _ _ hw ((c a ha).sh i)];constructor
   .rintro⟨k,e,f⟩;obtain⟨q,g1,g2,g3⟩:=aVp.mp f;exact(q,g1,g2,g3.1,(NY ..).mpr (mO k e g3))
   rintro⟨q,g1,g2,g3,l⟩;obtain⟨k,e,f⟩:=(NY ..).mp l;exact(k,e,aVp.mpr (q,g1,g2,f))
  constructor
  .rintro(h|⟨a,ha,o,i,j,h⟩)
   .exact([],9,9,h)
   obtain⟨q,g1,g2,g3,l⟩:=(step a ha i j).mp h;refine(a::q,fM,41,5)
   .grind
   rw[W8,mOr (mC3 c (nJ g1)),g3];exact(o,l)
  rintro⟨q,g1,g2,g3⟩
  cases q with
  |nil=>exact mH g3
  |cons a q=>
   have ha:=g1 a aC;have hq:aVo:=λb hb=>pH g1 b hb;rw[W8,mOr (mC3 c (nJ hq))] at g3;have r:=PB (q:=q) λb hb=>c b (nJ hq);grind
end
end Vp
namespace Vp
open Vf
theorem AnJ(h:nI pM x)(a:aNy):b=(b/2 ^ (x+1))*2 ^ (x+1)+2 ^ x:=by
 have c:b%2 ^ (x+1)=2 ^ x:=by apply Atg;grind
 have:=Nat.div_add_mod b (2 ^ (x+1));rw[c,Avu] at this;exact this.symm
def HL(b:Nat):Nat:=Ch b (b - 1)
theorem WB(h:nI pM x)(a:aNy):HL b=1<<<x:=by
 have e:=AnJ h a;have hp:=AuS x;have c:b - 1=(b/2 ^ (x+1))*2 ^ (x+1)+(2 ^ x - 1):=aA;apply Atg;intro i;unfold HL;rw[Hq];have d:mOs (b - 1).testBit (2 ^ x - 1).testBit:=by rw[c,Avu,Nat.testBit_two_pow_mul_add _ (qT Nat.pow_succ)]
 have e3:mOs pM (2 ^ x).testBit:=by grind
 rw[d,e3,AsE];grind
theorem AnK(h:b≠0):∃x,pM x=true/\∀y,y<x->pM y=false:=by
 obtain⟨i,a⟩:=(T6 b).mp h
 induction i using Nat.strongRecOn with
 |_ i c=>
  grind
theorem AnL(h:nI pM x)(a:aNy)(i:Nat):(b^^^HL b).testBit i=(pM i&&decide (i≠x)):=by rw[WB h a,AuR,AsE,AtP];grind
structure Cr where
 wd:Wd
 Bl:Nat
 n:Nat
def WD:Wd:=(60,(60,[]),(60,[]))
section
variable (S:iI)
def AH(i:Nat):Cr:=S.getD i (WD,60,60)
def Bu:Nat->Nat
 |0=>0
 |i+1=>Bu i+cE.n
theorem S4(h:i<=j):dH <=Bu S j:=by
 induction j with
 |zero=>(obtain rfl:i=0:=by omega);exact aF
 |succ j a=>
  by_cases e:i=j+1
  .subst e;exact aF
  have:=a aA;show dH <=Bu S j+aBY.n;omega
theorem S5(a:dH <=x)(b:x<dH+cE.n)(c:Bu S j<=x)(h4:x<Bu S j+aBY.n):i=j:=by
 rcases Nat.lt_trichotomy i j with h|h|h
 .have:=mGy i j h;have e:mJ0 i:=rfl;omega
 .exact h
 have:=mGy j i h;have e:Bu S (j+1)=Bu S j+aBY.n:=rfl;omega
structure Dl(W:Nat)(l:bD):Prop where
 le:∀i,l i<= cE.n
 Dg:∀x,W.testBit x=true↔∃i,dH <=x/\x<dH+l i
theorem S6:Dl S 0 λ_=>0:=(λ_=>aR,λx=>by
 constructor
 .intro h;simp at h
 rintro⟨i,a,b⟩;omega)
variable {S}
theorem Dl.at(h:aBZ)(hk:k<cE.n):W.testBit (dH+k)=true↔k<l i:=by
 rw[h.Dg];constructor
 .rintro⟨j,g,q⟩;have:=h.le j;have e:=S5 S (i:=i) (j:=j) (x:=dH+k) aA aA g aA;subst e;omega
 intro s;exact(i,4,4)
theorem AnM(h:aBZ)(h':Dl S V k):Dl S (W|||V) λi=>max (l i) (k i):=by refine(λi=>by have:=h.le i;have:=h'.le i;omega,λx=>?_);rw[Ate,Atx,h.Dg,h'.Dg];grind
theorem AnN(h:aBZ)(h':aIn)(e:W&&&U=W)(i:Nat):l i<=u i:=by
 rcases Atq (u i) (l i) with a|hge
 .exfalso;have hk:=Ass a (h.le i);have b:=(h.at hk).mpr a;rw[<-e,Atd,AsF,h'.at hk] at b;omega
 exact hge
def KG(S:iI)(i M:Nat):Prop:=∀x,aNz=true↔ dH <=x/\x<dH+cE.n
theorem AnO(h:aE0):Dl S M λj=>if j=i then cE.n else 0:=by
 refine aNA
 .grind
 rw[h x];grind
theorem WE(a:aE0)(b:aIn)(x:Nat):mJ1 x=true↔ dH+u i<=x/\x<dH+cE.n:=by
 rw[Hq,AsF,a x,Avg];constructor
 .rintro⟨⟨c,d⟩,f⟩;refine(5,d);rcases Atq x aE1 with g|hge
  .rw[(b.Dg x).mpr (mO i c g)] at f;cases f
  exact hge
 rintro⟨c,d⟩;refine(oH (4,d))
 cases hb:U.testBit x with
 |false=>rfl
 |true=>
  obtain⟨j,g1,g2⟩:=(b.Dg x).mp hb;have:=b.le j;have e:=S5 S (i:=i) (j:=j) (x:=x) aA d g1 aA;subst e;omega
theorem Ae0(a:aE0)(b:aIn):HL aNB=if u i<cE.n then 1<<<aE1 else 0:=by
 by_cases e:u i<cE.n
 .rw[bU];refine WB (aNC.mpr (aF,4)) λy hy=>?_
  cases hb:mJ1 y with
  |false=>rfl
  |true=>have:=aNC.mp hb;omega
 rw[bN];have:aNB=0:=by
  apply Atg;intro x;rw[Avo]
  cases hb:mJ1 x with
  |false=>rfl
  |true=>have:=aNC.mp hb;omega
 rw[this];rfl
def DS(u:bD)(i:Nat):bD:=λj=>if j=i then u j+1 else u j
theorem Ae1(a:aIn)(b:u i<cE.n):Dl S (U|||1<<<aE1) aDj:=by
 refine aNA
 .unfold DS;split
  .rename_i e;subst e;omega
  exact a.le j
 rw[Ate,Atx,a.Dg,Eb];constructor
 .rintro(⟨j,c,d⟩|rfl)
  .refine(rF j c);unfold DS;split<;>omega
  exact(i,4,by unfold DS;rw[bE];omega)
 rintro⟨j,c,d⟩;unfold DS at d;grind
def Ml(l u:bD)(i:Nat):bD:=λj=>if j=i then min (l j) (u j) else l j
theorem AnP(a:aBZ)(b:u i<cE.n)(hle:aND):Dl S (Ch W (1<<<aE1)) (Ml l u i):=by
 refine aNA
 .unfold Ml;have:=a.le j;split<;>omega
 have hb:∀x,(1<<<aE1:Nat).testBit x=false↔x≠ dH+u i:=λx=>by rw[<-Bool.not_eq_true,Eb]
 rw[Hq,AsF,Avg,hb,a.Dg];constructor
 .rintro⟨⟨j,c,d⟩,f⟩;refine(rF j c);unfold Ml;grind
 rintro⟨j,c,d⟩;unfold Ml at d;by_cases e:j=i
 .grind
 rw[bN] at d;refine((mO j c d),λz=>e ?_);have:=a.le j;exact S5 S (x:=x) c aA aA aA
def Cc(S:iI)(q:aB):List Wd:=q.map λi=>cE.wd
def KH(S:iI):aB ->Nat
 |[]=>0
 |i::q=>cE.Bl+KH S q
def Lk(S:iI)(C:aB0)(l:bD)(r c:Int):Prop:=∀q:aB,C q->(q.length:Int)<=r->(KH S q:Int)<=c->∃i,cE.n<l i+q.count i
theorem AnQ:Lk S (λ_=>False) l r c:=λq h=>h.elim
theorem Ae2(h:aIo)(a:∀q,D q->C q):Lk S D l r c:=λq hq=>h q (rD a)
theorem AnR(h:aIo)(h':Lk S D k a b):Lk S aVq (λi=>max (l i) (k i)) (min r a) (min c b):=by
 intro q hq d hc;rcases hq with hq|hq
 .obtain⟨i,e⟩:=h q hq aA aA;grind
 obtain⟨i,e⟩:=h' q hq aA aA;grind
theorem AnS(h:aIo):Lk S (λq=>∃i a,q=i::a/\ cE.Bl=g/\C a) l (r+1) (c+g):=by rintro q ⟨i,a,rfl,hg,hq⟩ b hc;rw[As1] at b;have hc':KH S (i::a)=g+KH S a:=(by show cE.Bl+_=_;rw[hg]);rw[hc'] at hc;obtain⟨j,hj⟩:=h a hq aA aA;grind
theorem AnT(h:aIo)(hle:aND):Lk S aVr (Ml l u i) (r+1) (c+cE.Bl):=by rintro q ⟨a,rfl,hq⟩ b hc;rw[As1] at b;have hc':KH S (i::a)=cE.Bl+KH S a:=rfl;rw[hc'] at hc;obtain⟨j,hj⟩:=h a hq aA aA;refine(oH j);rw[Aw0];unfold Ml;grind
theorem AnU{C:aB0}:Lk S aVr (λj=>if j=i then cE.n else 0) r c:=by rintro q ⟨a,rfl,hq⟩ b hc;refine(oH i);simp
end
def DG(st:bV)(k:Nat):List Nat:=st.getD k []
def Fs(st:bV):aB -> aB
 |[]=>[]
 |[k]=>fX
 |k::j::l=>fX++32::mEe l
structure FZ(st:bV):Prop where
 ne:∀x∈st,x≠[]
 le:∀x∈st,x.length<=23
 S8:∀x∈st,jI=true
theorem AnZ(h:aTH):65<=c:=by unfold Kgz1.isLetter at h;simp only[Bool.or_eq_true,Bool.and_eq_true,decide_eq_true_eq,Q3,List.mem_cons,List.not_mem_nil,or_false] at h;omega
theorem PJ(h:mAY k):fX ∈st:=by unfold DG;grind
theorem Ae7(ok:hN)(hx:x∈st):∀c∈x,65<=c:=λc hc=>AnZ (vW (oY ok.S8) c hc)
theorem An_(ok:hN):∀(r:aB),lT ->Kgz2.lineOf gU r=Fs st r:=by
 have FN:∀k,k<st.length-> aVv=DG st k:=λk hk=>by
  have:gU.getD k []=C5 fX:=by unfold DG;grind
  rw[this];exact An5 λz hz=>(by have:=Ae7 ok (PJ hk) z hz;omega)
 intro r
 induction r with
 |nil=>intro _;rfl
 |cons k l a=>
  intro h
  cases l with
  |nil=>exact FN k (h k aC)
  |cons j t=>
   show aVv++32::Kgz2.lineOf gU (j::t)=fX++32::mEe t;grind
theorem Ae8:∀(a w r:aB),aVw ->mCo (a++32::r) w=if w++a=[] then mCo r [] else(w++a)::mCo r []
 |[],w,r,_=>by simp[Kgz1.splitOn]
 |c::a,w,r,h=>by
  rw[At8,Kgz1.splitOn,mM (h c aC),Ae8 a _ r λx hx=>gN];simp
theorem Ae9:∀(a w:aB),aVw ->mCo a w=if w++a=[] then[] else[w++a]
 |[],w,_=>by simp[Kgz1.splitOn]
 |c::a,w,h=>by
  rw[Kgz1.splitOn,mM (h c aC),Ae9 a _ λx hx=>gN];simp
theorem Aoa(ok:hN):∀(r:aB),lT ->mAP aB1=r.map (DG st):=by
 intro r
 induction r with
 |nil=>intro _;rfl
 |cons k l a=>
  intro h;have hk:=PJ (h k aC);have b:∀c∈ fX,c≠32:=λc hc=>(by have:=Ae7 ok hk c hc;omega);have d:=ok.ne _ hk
  cases l with
  |nil=>
   show mCo fX []=_;rw[mC Ae9 b,Atz,mM d];rfl
  |cons j t=>
   show mCo (fX++32::mEe t) []=_;rw[rW Ae8 b,Atz,mM d];have:=a λx hx=>gN;show fX::mAP (mEe t)=_;rw[this];rfl
theorem AeA(st:bV):∀(r:aB),r≠[]-> aB1.length+1=AM (r.map λk=>fX.length+1)
 |[],h=>aAg
 |[k],_=>by simp[Fs,AM]
 |k::j::l,_=>by
  rw[Asn,C7,<-(AeA st (j::l) aC)];show(fX++32::mEe l).length+1=_;grind
def GD:aB ->Nat
 |[]=>0
 |x::r=>max x (GD r)
theorem WI(h:x∈l):x<=GD l:=by
 induction l with
 |nil=>simp at h
 |cons y r a=>
  unfold GD;grind
theorem AeB(h:mEP b):GD l<=b:=by
 induction l with
 |nil=>exact aR
 |cons y r a=>
  unfold GD;have:=h y aC;grind
def GF(feet:jJ):Nat:=AM (mJ4 feet.map)
theorem WJ(cuts:cA)(b:aB):∀(feet:jJ)(i a:Nat)(Am:Bool),mJ5 Bz feet≠[]->b.length<=a+GF feet
 |[],i,a,Am,h=>by
  unfold Bz at h;grind
 |f::r,i,a,Am,h=>by
  unfold Bz at h;rw[List.ne_nil_iff_exists_cons] at h;obtain⟨x,l,h⟩:=h;have hx:x∈f.zipIdx.flatMap (λw=>if mAd w.1 then aJW else[]):=(pD h);rw[AuK] at hx;obtain⟨⟨w,j⟩,hw,hx⟩:=hx;split at hx
  .obtain⟨y,hy,_⟩:=aAc;have c:=WJ cuts b r (i+1) aDW (Am||Ei cuts b i w a) (λe=>by rw[e] at hy;simp at hy);have hm:=WI (AtE (f:=List.length) ((List.mem_zipIdx hw).2.2▸Asw _));unfold GF at c⊢;rw[Asn,C7];omega
  simp at hx
theorem Aob{m:Bi}(ok:m.Ok):aIs <=64:=by
 have:aIs <=m.feet.length*4:=by
  unfold GF;have:=XR 4 (mJ4 m.feet.map) (λx hx=>by obtain⟨f,hf,rfl⟩:=aAc;refine AeB λy hy=>?_;obtain⟨w,hw,rfl⟩:=pA hy;have:=(ok.Bz f hf).2.2 w hw;simp only[Eh,Bool.and_eq_true,decide_eq_true_eq] at this;omega)
  simpa using this
 have:=ok.KY;omega
def Wk(st:bV)(k:Nat):Wd:=Hb fX
theorem Aoc(s:aC3):(Bs aMD).2.length<=(cR).2.length:=by
 have key:∀(a b:aC3),(Bs a).2.length<=(Bs (a++b)).2.length:=by
  intro a b
  induction a with
  |nil=>simp[Bs]
  |cons x a d=>
   cases x with
   |cons c=>exact d
   |vowel g=>simp only[List.cons_append,Bs,List.length_cons];omega
 have hp:∃b,s=aMD++b:=by
  unfold Kgz1.cut;split
  .simp_all
  .simp_all
  exact([],9)
 grind
theorem Aod(h:oO jI):DR (Hb x):=
 ((Yc (La 0 x h)).2,VM _,VM _)
theorem AeC(x:aB):(Hb x).CO.A2.length<=(Hb x).DF.A2.length:=by unfold Hb DU;simp;exact Aoc _
theorem KI(ok:hN)(h:mAY k):DR eV:=Aod (ok.S8 _ (PJ h))
theorem WK(F_:m.Ok)(ok:hN)(r:aB)(b:lT):
 Kgz2.scansRow aDQ gU r=true↔ aB1.length<=255/\HK aJ 4 aJ.first aNH:=by
 have c:∀x∈uF (DG st),jI=true:=λx hx=>by obtain⟨k,hk,rfl⟩:=aAc;exact ok.S8 _ (PJ (b k hk))
 have d:HV (mAP aB1)=CP (uF (Wk st)):=by rw[(Aoa ok r b),<-VJ _ c,AsB];rfl
 have f:aNI.map Kgz1.number=Cq 4 aNH:=by
  rw[<-O1];unfold Ck;rw[d];exact An8 _ (P9 _ λa ha=>by obtain⟨k,hk,rfl⟩:=aAN;exact KI ok (b k hk))
 have g:Kgz1.scans aDQ aNI=Bz m.cuts aNJ m.feet 0 0 m.cuts.isEmpty:=(pW T4 f);have hlen:aNI.length=aNJ.length:=(mBT f ArX);have h:=XZ m F_ aNJ;unfold Kgz2.scansRow;rw[An_ ok r b];simp only[Bool.and_eq_true,decide_eq_true_eq,Bool.not_eq_true'];rw[g];constructor
 .rintro⟨⟨i,j⟩,l⟩;refine(oH i);obtain⟨p,hp,ha⟩:=h.mpr (λe=>by rw[e] at l;simp at l);refine(p,hp,λe=>?_,ha);rw[e,AuV] at hlen;unfold Kgz1.bad at j;grind
 rintro⟨i,p,hp,n,ha⟩;have o:=h.mp (mO p hp ha);refine(oA oH i)
 .have q:=WJ _ _ _ _ _ _ o;have:=Aob F_;unfold Kgz1.bad;grind
 rw[List.isEmpty_eq_false_iff];exact o
theorem Aoe(F_:m.Ok)(q:dV)(hq:aNt)(hc:aVx)(h:HK aJ 4 aJ.first aDh):
 AM aVy <=GF m.feet:=by
 obtain⟨p,hp,c,ha⟩:=h;have d:=WJ _ _ _ _ _ _ ((XZ m F_ _).mp (mO p hp ha));rw[mV W5 aA (rD P9),bE] at d;have:∀q:dV,aVx ->AM aVy <=D_ aDh:=by
  intro q
  induction q with
  |nil=>intro _;exact aF
  |cons a q e=>
   intro h;have:=e λb hb=>pH h b hb;have ha:=hR;rw[S3];unfold D_ at this⊢;rw[Asn,C7,Asn,C7];have:a.CO.A2.length<= aIl.A2.length:=by unfold Wd.sh;split<;>omega
   omega
 have:=this q hc;omega
theorem WL(hd:r.Nodup)(c:aE4):∃s,kO.Perm (r++s):=by
 refine(kO.filter λk=>decide (k∉r),5);have d:(r++kO.filter λk=>decide (k∉r)).Nodup:=by rw[AsT];refine(hd,List.Pairwise.filter _ List.nodup_range,λa ha b hb e=>?_);grind
 grind
theorem Aof{a b:bG}(h:a.Perm b):a.sum=b.sum:=by
 induction h with
 |nil=>rfl
 |cons x _ c=>rw[AtK,AtK,c]
 |swap x y l=>simp;omega
 |trans _ _ d e=>exact d.trans e
theorem S9:∀(fs A B:bG),aVz ->fs.Perm kW ->(fs.take A.length).sum<=A.sum
 |[],A,B,_,hp=>by
  simp_all
 |x::fs,A,B,hs,hp=>by
  rw[AvR] at hs;by_cases hx:x∈A
  .have b:=mOw hx;have c:fs.Perm (aNK++B):=by
    have d:=hp.trans (List.Perm.append_right B b);exact aVA
   have e:=S9 fs aNK B hs.2 c;have f:=b.length_eq;have g:A.sum=x+aNK.sum:=(by rw[Aof b,AtK]);grind
  cases b:A with
  |nil=>simp
  |cons a h=>
   have i:x∈B:=by have:x∈A++B:=hp.mem_iff.mp aC;grind
   have c:fs.Perm (A++B.erase x):=by have d:=hp.trans ((List.Perm.append_left A (mOw i)).trans List.perm_middle);exact aVA
   have e:=S9 fs A (B.erase x) hs.2 c;rw[b] at e;have f:=c.length_eq;rw[b,Asi,As1] at f;rw[As1] at e⊢;rw[Auf,AtK];have j:h.length<fs.length:=aA;rw[AsA,mJ j,Atp,Aw1,List.sum_singleton] at e;have:=hs.1 fs[h.length] (Asw j);omega
theorem AeD(l:bG):(sD (λx=> -x)).sum= - l.sum:=by
 induction l with
 |nil=>rfl
 |cons x l a=>rw[Asn,AtK,AtK,a];omega
theorem Aog(hs A B:bG)(h:aVB)(hp:hs.Perm kW):A.sum<=(hs.take A.length).sum:=by
 have a:aVC.Pairwise (·<=·):=by grind
 have b:aVC.Perm ((A.map λx=> -x)++(B.map λx=> -x)):=by rw[<-As7];exact hp.map _
 have:=S9 _ _ _ a b;rw[ArX,<-AuM,AeD,AeD] at this;omega
theorem WM(l:aB):(l.map λ(n:Nat)=>(n:Int)).sum=((AM l:Nat):Int):=by
 induction l with
 |nil=>rfl
 |cons x l a=>rw[Asn,AtK,C7,a];omega
theorem Aoh{fs:bG}{r:aB}(hd:r.Nodup)(a:aE4)(hp:fs.Perm (mA0 kO.map))(hs:aVz):(fs.take r.length).sum<=((AM (uF f):Nat):Int):=by obtain⟨s,b⟩:=WL hd a;have h:=S9 fs (mA0 r.map) (mA0 s.map) hs aVD;rw[ArX] at h;have e:aVE:=(qF AsB);rw[e,WM] at h;exact h
theorem Aoi{hs:bG}{r:aB}(hd:r.Nodup)(a:aE4)(hp:hs.Perm (mA0 kO.map))(h':aVB):((AM (uF f):Nat):Int)<=(hs.take r.length).sum:=by obtain⟨s,b⟩:=WL hd a;have h:=Aog hs (mA0 r.map) (mA0 s.map) h' aVD;rw[ArX] at h;have e:aVE:=(qF AsB);rw[e,WM] at h;exact h
theorem Aoj{fs:bG}(h0:∀x∈fs,0<=x):∀{a b:Nat},a<=b->(fs.take a).sum<=(fs.take b).sum:=by
 induction fs with
 |nil=>intro a b _;simp
 |cons x fs c=>
  intro a b d;have hx:=h0 x aC
  cases a with
  |zero=>
   cases b with
   |zero=>exact Int.le_refl _
   |succ b=>
    have:=(c λy hy=>pH h0 y hy) (Asm b);grind
  |succ a=>
   cases b with
   |zero=>omega
   |succ b=>
    grind
structure Oa(st:bV)(A7:bD)(S:iI)(so:bD):Prop where
 lt:∀k,k<st.length->so k<S.length
 wd:∀k,k<st.length-> aNL.wd=Wk st k
 Bl:∀k,k<st.length-> aNL.Bl=A7 k
 n:∀i,cE.n=(aAO.map so).count i
theorem Aok(ok:aIt)(t:aB)(a:aNM):Cc S aNN=t.map (Wk st):=by unfold Cc;rw[AsB];exact AsU λk hk=>ok.wd k (a k hk)
theorem AeE(ok:aIt):∀(t:aB),aNM ->KH S aNN=AM (t.map A7)
 |[],_=>rfl
 |k::t,h=>by
  rw[Asn,Asn,C7,<-AeE ok t λx hx=>gN];show aNL.Bl+_=_;rw[ok.Bl k (h k aC)]
theorem AeF(ok:aIt){r:aB}(hd:r.Nodup)(a:lT)(i:Nat):(uF so).count i<= cE.n:=by obtain⟨s,b⟩:=WL hd a;rw[ok.n i,(b.map so).count_eq,As7,List.count_append];omega
section
variable (T:BR) (st:bV)
def D4(r:aB)(m:Nat):gY:=match r.reverse with
 |[]=>(4,T.first,)
 |k::l=>go l eV m
where go:aB ->Wd->Nat->Nat×Nat
 |[],a,m=>CQ T 4 T.first (a.sh m)
 |j::l,a,m=>CQ T (go l gK a.vf).1 (go l gK a.vf).2 (a.sh m)
theorem SB(r:aB)(k m:Nat):D4 T st eI m=CQ T (zS T eV.vf).1 (zS T eV.vf).2 (eV.sh m):=by
 unfold D4;rw[List.reverse_append,List.reverse_singleton,List.singleton_append]
 cases h:r.reverse with
 |nil=>rfl
 |cons j l=>rfl
theorem PK(ok:hN):∀(n:Nat)(r:aB)(m:Nat),r.length=n-> lT ->(zS T m).1<=4
 |0,r,m,a,_=>by
  obtain rfl:=tY a;exact aF
 |n+1,r,m,a,b=>by
  obtain⟨q,k,rfl⟩:∃q k,r=q++[k]:=by
   rcases AsR r with h|⟨q,k,h⟩
   .rw[h] at a;simp at a
   grind
  rw[SB];exact NX T _ _ _ (PK ok n q _ (mR a) λx hx=>b x aE5) ((KI ok (b k aC)).sh m)
theorem WN(ok:hN):∀(n:Nat)(r t:aB),r.length=n-> aVF ->
 (HK T 4 T.first (CP (aE6.map (Wk st)))↔HK T (zS T (Cb aAP)).1 (zS T (Cb aAP)).2 (CP aAP))
 |0,r,t,b,_=>by
  obtain rfl:=tY b;exact Iff.rfl
 |n+1,r,t,b,c=>by
  obtain⟨q,k,rfl⟩:∃q k,r=q++[k]:=by
   rcases AsR r with h|⟨q,k,h⟩
   .rw[h] at b;simp at b
   grind
  have d:∀x∈q++(k::t),x<st.length:=λx hx=>c x (mR hx);have e:∀a∈ aAP,DR a:=λa ha=>by obtain⟨x,hx,rfl⟩:=aAN;exact KI ok (d x aMB)
  rw[At3,List.singleton_append,WN ok n q (k::t) (mR b) d,SB];show HK T (aVG).1 (aVG).2 (CP (eV::aAP))↔_;rw[S3,Aes T _ _ _ _ (PK T st ok n q _ (mR b) λx hx=>d x aE5) ((KI ok (d k aC)).sh _) (P9 _ e)]
end
end Vp
namespace Vp
open PySem PySem.Spec L2
section
variable {prog:Program} {w:World} {A:Around} {E:bK} {s:Shared}
theorem AeG(a:mJ6 b i)(c:mAr b d)
 (h:∀(o:Obj),nU it=aH ->o.cls= mGB oE->o.data= mAl #[bW,.int i 0]->∀nx:Sem PySem.Fin,Builtin.«tuple_iterator.__next__» ([iZ],[])=nx->wpAny bC A.in1 nx (λf e=>∃v,f= .done (.ret v)/\Q v e) E s):
 wpAny bC A aE7 Q E s:=by
 obtain⟨o,g,hc,hd⟩:=id a;refine mZ (mGC a.typeIs F.slot_tuple_iterator_next (Atf F.slot_tuple_iterator_next a.typeIs F.entry_tuple_iterator_next ?_ (F.args_tuple_iterator_next_1 _)));refine AtL (h o g hc hd _ rfl) (λf e q=>?_) λ_ _ x=>x;obtain⟨v,rfl,q⟩:=q;exact(v,2,Asg q)
theorem WO(b:lH)(c:mJ6 d i)(f:mAr d g)(hx:g[i]? =none)
 (h:aVH):wpAny bC A aE7 Q E s:=by
 obtain⟨j,k,_,l,n⟩:=id f;refine AeG c f λo p hc hd nx e=>?_;subst e;show mGD 0;refine mOx p dC;show mDz d s;rw[aIu];show mGD 1;refine mOy p;show mGE seqItems? dC;refine pO AtV k n;simp only[Int.toNat_natCast,hx];refine mZ (Ava (mFR p));show aVI;refine cG;simp only[newExc,newTuple];refine mZ aCJ;refine mOz (by first|rfl|(simp;rfl));refine aCJ;simp only[raiseNew];refine aLA;first|rw[show A.in1.handled=none from b]|rw[b]
 refine ArZ (Asg (wpAny_throw (mV h aLB aEA)))
theorem AeH(a:mJ6 b i)(c:mAr b d)(hx:d[i]? =aY)
 (f:∀h',h'.IsTupleIter it b (i+1)->yQ it->Q x {s with heap:=h'}):wpAny bC A aE7 Q E s:=by
 obtain⟨g,h,_,j,k⟩:=id c;refine AeG a c λo l hc hd nx e=>?_;subst e;show mGD 0;refine mOx l bW;show mDz b s;rw[aIu];show mGD 1;refine mOy l;show mGE seqItems? bW;refine pO AtV h k;simp only[Int.toNat_natCast,hx];refine ArZ (Avb l hd aC (Asg (x,2,f _ (_,mOA l,aVJ,5) (AtD ..))));rw[Au_ hd];simp[rawInt]
def EC(b:Bool)(h:Heap)(a:Addr)(c:jX):Prop:=if b then h.IsList a c else h.IsTuple a c
def Ec(b:Bool)(h:Heap)(it a:Addr)(i:Nat):Prop:=if b then aGm else aGp
theorem EC.at(x:EC b h a g)(e:mJ7 a):EC b h' a g:=by
 cases b with
 |true=>exact Heap.IsList.at x e
 |false=>obtain⟨o,i,r⟩:=aVK;exact(o,e o i,r)
theorem Ec.at(x:aNO)(e:mJ7 it):Ec b h' it a i:=by
 cases b with
 |true=>exact Heap.IsListIter.at x e
 |false=>exact Heap.IsTupleIter.at x e
theorem Ec.there(x:aNO):∃o,oT it=aH /\∃v,o.data= .fields v:=by
 cases b with
 |true=>obtain⟨o,g,_,hd⟩:=(show aGm from x);exact(o,g,_,hd)
 |false=>obtain⟨o,g,_,hd⟩:=(show aGp from x);exact(o,g,_,hd)
theorem EC.there(x:EC b h a g):∃o,oT a=some o:=by
 cases b with
 |true=>obtain⟨o,i,_⟩:=(show h.IsList a g from x);exact(o,i)
 |false=>obtain⟨o,i,_⟩:=aVK;exact(o,i)
theorem Aol(c:lH)(it a:Addr)(d:a≠it)(f:jX):Draws prog w A it [it,a] f.size (λi v=>f[i]? =bJ) (λi h=>aNO /\EC b h a f) where
 live:=λ_ _ st=>let(o,g,_):=st.1.there;(o,g)
 frame:=λ_ _ _ st hk=>(st.1.at λo e=>hk it aC o e,mIP hk a)
 item:=λi s Q E j st k=>by
  have hx:pC f[i]? f[i]:=(by simp[j])
  cases b with
  |true=>exact wpAny_nextOf_list_item st.1 st.2 hx λh' l m=>aVL
  |false=>exact AeH st.1 st.2 hx λh' l m=>aVL
 done:=λs Q E st n=>by
  cases b with
  |true=>exact wpAny_nextOf_list_end c st.1 st.2 aC n
  |false=>exact WO c st.1 st.2 aC n
theorem WP(c:mCp b it a i)(d:mA1 b a e)(hx:e[i]? =aY)
 (f:∀h',Ec b h' it a (i+1)->yQ it->Q x {s with heap:=h'}):wpAny bC A aE7 Q E s:=by
 cases b with
 |true=>exact wpAny_nextOf_list_item c d hx f
 |false=>exact AeH c d hx f
theorem AeI(c:lH)(d:mCp b it a i)(f:mA1 b a g)(hx:g[i]? =none)
 (h:aVH):wpAny bC A aE7 Q E s:=by
 cases b with
 |true=>exact wpAny_nextOf_list_end c d f hx h
 |false=>exact WO c d f hx h
theorem Aom{z TI TO a b d f:Addr}(D:ZipApart z TI TO a b d f)
 (hz:mFU s.heap) (g:mGF TI aI bW) (h:mGF TO p q) (i:mCp b1 a d j) (k:mCp l b f m)
 (g1:mGG d) (g2:mA1 l f ys) (hx:xs[j]? =aY) (hy:ys[m]? =mB y)
 (aa:∀h',IsZip h' z TI TO (mDr rawInt)->IsPair h' TO x y->Ec b1 h' a d (j+1)->Ec l h' b f (m+1)->IsPair h' s.heap.objs.size x y->
  (∀c o,c≠z->c≠TO->c≠a->c≠b->nU c=aH ->qG c=aH)->Q (mDr mG) {s with heap:=h'}):wpAny bC A (pyNext aDl) Q E s:=by
 have n:s.TypeIs aDl "zip":=(sZ hz);refine mOB n;show mGH 2;refine aVM;show mGH 3;refine mOC g;refine cG;unfold Builtin.SmallTypes.ownedTupleIsFree;refine mZ (mIv hz rfl);simp only[if_true];refine mOD (Auk hz aC λv1 ab s1=>?_);have r:mJ8 nU v1.get?:=λc o hc e=>(s1.2 c hc).trans e;refine cG;simp only[List.zipIdx_cons,List.zipIdx_nil,List.forIn_cons,List.forIn_nil];refine aIv;show mGI a;refine ArZ (WP (s:={s with heap:=v1}) (i.at λo e=>mJ9 r) (g1.at λo e=>r _ o D.l1z e) hx λv2 n2 s2=>cO);have u:mOE z a:=λc o hc hd e=>(s2.2 c hd).trans (zT r);have v:=u _ _ D.TOz D.TOi1 h;refine mZ (AtV v rfl (mZ (Av4 v λB t3 s3=>aVN)));have C:mOF B.get?:=λc o hc hd he e=>(s3.2 c he).trans (u c o hc hd e);refine aIv;show mGI b;refine ArZ (WP (s:={s with heap:=B}) (k.at λo e=>mOG C e) (mOH C) hy λv4 n4 s4=>cO);have G:=(s4.2 TO D.TOi2).trans t3;refine ArZ (AtV G rfl (mZ (Av4 G λH ac s5=>yN wpAny_letGo cO)))
 have I:IsPair H TO x y:=ac;refine mZ (AtV I rfl (mZ (wpAny_newTuple ?_)));have sz:mIF H.objs.size:=(by rw[s5.1,s4.1,s3.1,s2.1,s1.1]);have J:=(s5.2 z D.TOz.symm).trans ((s4.2 z D.i2z.symm).trans (mOI ab));refine cG;unfold Builtin.SmallTypes.ownedTupleHandOut;refine mZ (Auk (pK J) aC λae af L=>?_);refine Auk af aC λM ag N=>?_;have O:=ag;have T:mJ8 H.get? M.get?:=λc o hc e=>(N.2 c hc).trans ((L.2 c hc).trans jA);have U:=Asu J;have Y:=(N.2 _ (Auj U)).trans ((L.2 _ (Auj U)).trans eQ);rw[sz] at O Y;refine Asg (mF H.objs.size,2,cO);rw[sz];exact aa M O (mV T D.TOz I) ((n2.at λo e=>(s5.2 a D.TOi1.symm).trans ((s4.2 a D.i12).trans ((s3.2 a D.TOi1.symm).trans e))).at λo e=>mJ9 T) ((n4.at λo e=>(s5.2 b D.TOi2.symm).trans e).at λo e=>T _ o D.i2z e) Y λc o c1 ah ai aj e=>T c o c1 ((λc o hc he hd hf e=>(s5.2 c he).trans ((s4.2 c hf).trans (C c o hc hd he e))) c o c1 ah ai aj e)
theorem Aon{z TI TO a d f g:Addr}(h:lH)(D:ZipApart z TI TO a d f g)
 (hz:mFU s.heap) (i:mGF TI aI dC) (j:mGF TO p q) (aa:mCp b1 a f k) (ab:mCp ac d g l)
 (g1:mGG f) (g2:mA1 ac g ys) (ae:mIX xs[k]? ys[l]?)
 (af:∀h',(mOJ qG)->Q none {s with heap:=h'}):wpAny bC A (pyNext aDl) Q E s:=by
 have m:s.TypeIs aDl "zip":=(sZ hz);have fin:∀(hp:Heap)(e:Addr),(mOJ hp.get?)->(∃o,hp.get? e=aH /\o.cls= aNP)->
  wpAny bC A (do if<-isInstance aDm aNP then pure none else throw aDm) Q E {s with heap:=hp}:=λhp e hk he=>by
  obtain⟨o,ag,hc⟩:=he;exact ArZ (mFS (mO o ag hc) (Asg (af hp hk)))
 refine mOB m;show mGH 2;refine aVM;show mGH 3;refine mOC i;refine cG;unfold Builtin.SmallTypes.ownedTupleIsFree;refine mZ (mIv hz rfl);simp only[if_true];refine mOD (Auk hz aC λv1 ah s1=>?_);have n:=ah;have r:mJ8 nU v1.get?:=λc o hc e=>(s1.2 c hc).trans e;refine cG;simp only[List.zipIdx_cons,List.zipIdx_nil,List.forIn_cons,List.forIn_nil];refine aIv;show mGI a;have u:=aa.at λo e=>mJ9 r;have v:=g1.at λo e=>r _ o D.l1z e
 cases hx:xs[k]? with
 |none=>
  refine mZ (AeI (s:={s with heap:=v1}) h u v hx λv2 e s2 he=>?_);obtain⟨y,B,C⟩:=he;have G:=mV s2 D.i1z.symm n;have H:e≠z:=λx=>(mOK G);exact Auk G aC λI _ s3=>fin I e (λc o c1 J L M e'=>(s3.2 c c1).trans (s2 c o L (r c o c1 e'))) (mOL s3.2)
 |some x=>
  have hy:ys[l]? =none:=by grind
  refine mZ (WP (s:={s with heap:=v1}) u v hx λv2 n2 s2=>cO);have N:mOE z a:=λc o hc hd e=>(s2.2 c hd).trans (zT r);have O:=N _ _ D.TOz D.TOi1 j;refine mZ (AtV O rfl (mZ (Av4 O λI t3 s3=>aVN)));have U:mOF I.get?:=λc o hc hd he e=>(s3.2 c he).trans (N c o hc hd e);refine aIv;show mGI d;refine ArZ (AeI (s:={s with heap:=I}) h (ab.at λo e=>mOG U e) (mOH U) hy λv4 e s4 he=>?_);obtain⟨y,B,C⟩:=he;have Y:=s4 _ _ D.i2z.symm (mOI n);have H:e≠z:=λx=>(mOK Y);exact Auk Y aC λai _ s5=>fin ai e (λc o c1 J L M e'=>(s5.2 c c1).trans (s4 c o M (U c o c1 L J e'))) (mOL s5.2)
end
end Vp
namespace Vp
open PySem PySem.Spec L2
abbrev SD(b:Bool)(a:Addr):Obj:={cls:= oE (if b then "list_iterator" else "tuple_iterator"),data:= mAl #[aI,.int 0 0]}
theorem AeJ(e:oT it=mB (SD b a)):Ec b h it a 0:=by
 cases b with
 |true=>exact aVO
 |false=>exact aVO
abbrev SE(h:Heap)(b1:Bool)(a:Addr):Heap:=h.push (SD b1 a)
abbrev SF(h:Heap)(b1 a:Bool)(b c:Addr):Heap:=(SE h b1 b).push (SD a c)
abbrev SG(h:Heap)(b1 a:Bool)(b c:Addr):Heap:=(SF h b1 a b c).push {cls:= hB,data:= .seq #[mBx mF,mF (SE h b1 b).objs.size]}
abbrev SH(h:Heap)(b1 a:Bool)(b c:Addr):Heap:=(SG h b1 a b c).push {cls:= hB,data:= .seq #[.none,.none]}
abbrev Ob(h:Heap)(b1 a:Bool)(b c:Addr):Heap:=(SH h b1 a b c).push {cls:= oE "zip",data:= mAl #[.none,aNQ,aNQ,mKa SF h,mKa SG h]}
theorem Aoo(b1 a:Bool)(b c:Addr)(xs ys:jX):Meets (Builtin.«zip.__new__» ([oE "zip",bW,mF c],[])) (λ_ R s=>mGG b/\mA1 a c ys/\
 R (mGJ (mKa SH s.heap)) {s with heap:=Ob s.heap b1 a b c}):=
 .of_wp λprog w A R s h=>by
  obtain⟨hp,g,d,tk,os⟩:=s;obtain⟨f,i,h⟩:=h;have j:=sub_zip;have k:EC a (Shared.heap (hp.push (SD b1 b),g,d,tk,os)) c ys:=EC.at i λo e=>jA
  cases b1<;>cases a
  .have l:Heap.IsTuple aIw b xs:=f;have m:Heap.IsTuple (mGB mKb) c ys:=k
   wp_walk using AtG l,AtG m
   exact aB2
  .have l:Heap.IsTuple aIw b xs:=f;have m:Heap.IsList (mGB mKb) c ys:=k
   wp_walk using AtG l,At_ m
   exact aB2
  .have l:Heap.IsList aIw b xs:=f;have m:Heap.IsTuple aVP c ys:=k
   wp_walk using At_ l,AtG m
   exact aB2
  have l:Heap.IsList aIw b xs:=f;have m:Heap.IsList aVP c ys:=k
  wp_walk using At_ l,At_ m
  exact aB2
section
variable {prog:Program} {w:World} {A:Around} {E:bK} {s:Shared}
theorem Aop(g1:mGG a)(g2:mA1 b d ys)
 (h:∀h',IsZip h' (mCq 4) (mCq 2) (mCq 3) .none->IsPair h' (mCq 2) eP (mF cZ)->IsPair h' (mCq 3) .none .none->
  Ec b1 h' s.heap.objs.size a 0->Ec b h' cZ d 0->(∀c o,nU c=aH ->qG c=aH)->Q (mF (mCq 4)) {s with heap:=h'}):
 wpAny bC A (call (oE "zip") [aI,dC]) Q E s:=by
 refine callType_new F.called_zip bB (F.typeCall_zip_2 _ _) (F.newCall_zip_2 _ _) (λobj=>F.args_object_init_3 obj _ _) F.entry_zip_new (Aoo b1 b a d xs ys) (rF g1 g2);have e:(tQ SE b1 a).objs.size=s.heap.objs.size+1:=AsX ..;have f:mKc SF 2:=(pW AsX e);have g:mKc SG 3:=(pW AsX f);have i:mKc SH 4:=(pW AsX g);have j:mEf (mEg SH).objs.size:=eQ;have k:mEf (mEg SG).objs.size:=pK eQ;have e3:mEf (mEg SF).objs.size:=aNR;have l:mEf (tQ SE b1 a).objs.size:=pK aNR;have m:mEf s.heap.objs.size:=pK (pK aNR);show _/\_;rw[f,g,i] at j;rw[e,f] at e3;rw[g] at k;rw[e] at l;rw[i];exact((sZ j),h _ j e3 k (AeJ m) (AeJ l) λc o x=>pK (pK (pK (oA pK x))))
end
def CS(K:PySem.W.Frag)(b:Bool)(H:Hp)(a:Addr)(xs:aK):Prop:=if b then gQ else wA H
theorem Oc(c:aE)(h:mKd xs):
 ∃d:aT,AB xs d/\EC b s.heap a d.toArray:=by
 cases b with
 |true=>obtain⟨d,r,p,_⟩:=c.list (show mBE Ae from h);exact(mO d r p.isList)
 |false=>obtain⟨d,r,p,_⟩:=c.tuple (show mBE A8 from h);exact(mO d r p)
theorem AeK(c:aE)(h:mKd xs)(h':mKd ys):xs=ys:=by
 cases b with
 |true=>exact c.M6 h h'
 |false=>exact c.Ua h h'
def SI(K:PySem.W.Frag)(b1 c:Bool)(a b:Addr):It:=
 (λi H=>∃(xs ys:aK)(x y:V),mGK H/\mGL H/\xs[i]? =aY /\ys[i]? =mB y,λi H v H'=>∃T x y,v= mF T/\H T=none/\H'=mDA aAt /\(∀xs,mGK H->xs[i]? =aY)/\∀ys,mGL H->ys[i]? =mB y,λi H=>∃xs ys:aK,mGK H/\mGL H/\(mMZ i))
theorem Aoq{a b z TI TO d e:Addr}(D:ZipApart z TI TO d e a b):
 F3 P w K aMN (SI K b1 ac a b) aNS z (λi h=>mFU h/\IsPair h TI dC aDm /\ aS0 /\Ec b1 h d a i/\Ec ac h e b i) where
 mem:=by simp
 obj:=λi h st c hc=>by obtain⟨hz,f,⟨x,y,g⟩,j,m⟩:=st;obtain⟨ae,n,v1,af⟩:=j.there;obtain⟨ag,p,v2,ah⟩:=m.there;grind
 keep:=λi h h' st k=>by obtain⟨hz,f,⟨x,y,g⟩,j,m⟩:=st;exact(k z aC _ hz,k TI aC _ f,(x,y,k TO aC _ g),mBY j.at d,mBY m.at e)
 item:=by
  intro X r hw v hc i pins s σ H E B hf st hg;subst r hw v;obtain⟨hz,f,⟨x0,ai,g⟩,j,m⟩:=st;obtain⟨xs,ys,x,y,C,G,hx,hy⟩:=hg;obtain⟨I,J,g1⟩:=Oc B C;obtain⟨L,M,g2⟩:=Oc B G;obtain⟨u,hu,aj⟩:=J.get hx;obtain⟨N,ak,al⟩:=M.get hy;have O:=Asu hz;refine Aom D hz f g j m g1 g2 (x:=u) (y:=N) aCt (mR ak) λh' am an n1 n2 ao hk=>?_;refine(0,wpAny_letOwnedTupleGo_zip (s:={s with heap:=h'}) am λap aq T=>?_);have ar:mM0 x ap:=
   B.OV (t':=s.toks) (ch:=aNS) (mM1 T.2 aVQ) hf aF aYj
  refine(eP,_,ar,2,(_,x,y,2,aK3,2,λl Y=>by rw[AeK B Y C];exact hx,λl Y=>by rw[AeK B Y G];exact hy),(aq,5,(rF u N),5,5),λc as=>?_)
  .exact(T.2 _ D.TIz).trans (mM2 f)
  .exact(T.2 _ D.TOz).trans an
  .exact n1.at λo q=>(T.2 _ D.i1z).trans q
  .exact n2.at λo q=>(T.2 _ D.i2z).trans q
  have au:yP c:=by
   obtain⟨ae,n,_⟩:=j.there;obtain⟨ag,p,_⟩:=m.there;rcases(mR as) with q|q|q|q|q<;>rw[q]
   .exact O
   .exact Asu f
   .exact Asu g
   .exact Asu n
   exact Asu p
  rw[mDC au];exact(hf c as).1
 done:=by
  intro X r hw v hc i pins s σ H E B hf st hg;subst r hw v;obtain⟨hz,f,⟨x0,ai,g⟩,j,m⟩:=st;obtain⟨xs,ys,C,G,av⟩:=hg;obtain⟨I,J,g1⟩:=Oc B C;obtain⟨L,M,g2⟩:=Oc B G;have aw:=J.length;have ax:=M.length;have he:mIX I.toArray[i]? L.toArray[i]?:=by grind
  exact Aon aEb D hz f g j m g1 g2 he λh' hk=>(2,B.Zv (t':=s.toks) (ch:=aNS) (λc o hb q=>mIY aVQ q) hf)
 self:=λA i s Q E st h=>Avm st.1 h
def AeL(K:PySem.W.Frag)(b1 c:Bool)(d:TA):TI:=λσ H R=>d σ H λvs H1=>∃a b xs ys,vs=aAA /\mGK H1/\mGL H1/\R (SI K b1 c a b) H1
theorem Aor(b1 d:Bool)(hg:aLK)(hm:tS "zip")(ha:PA X [e,f] g)
 (hs:mIZ e f:=by rfl) (i:(xL [f]).any (·.1)=false:=by rfl):
 PI X (mAF j k) (mI0 f) (AeL X.K b1 d g):=by
 intro pins s σ H R l h;refine AuA (mAE l Z3 (AsO (A5 (xI H l) λus s1 (vs,H1,m,n,o)=>?_) hs i));obtain⟨a,b,xs,ys,ex,u,v,q⟩:=o;subst ex
 cases n with
 |cons r x=>
  cases x with
  |cons y x=>
   cases x
   cases r
   cases y
   obtain⟨A,B,g1⟩:=Oc m u;obtain⟨C,D,g2⟩:=Oc m v;obtain⟨_,E⟩:=g1.there;obtain⟨_,G⟩:=g2.there;refine Aop g1 g2 λh' hz I J n1 n2 hk=>Avm hz ?_;refine(zB 4,aS3,96,mDD m.CF,Aoq (mM3 a b (Asu E) (Asu G)),(hz,I,(19,J),n1,n2),λc L=>?_,q);have hle:mDE c:=by rcases(mR L) with z|z|z|z|z<;>rw[z]<;>first|exact aAz|exact aF
   exact mDF m.Hx m.Av.BC
theorem AeM(b1 a:Bool)(b:cH)(hg:aLK)(hm:tS "zip")(ha:PA X [e,c] d)
 (hs:mIZ e c:=by rfl) (f:(xL [c]).any (·.1)=false:=by rfl):
 PI X (mAF g h) (mI0 c) (AeL K b1 a d):=by subst b;exact Aor b1 a hg hm ha hs f
abbrev WQ(h:Heap)(l:Addr):Heap:=h.push {cls:= mGB oE,data:= aSa}
def WR(K:PySem.W.Frag)(a:Addr):It:=
 (λi H=>∃(xs:aK)(x:V),aQV,λi H v H'=>∃T x,v= mF T/\H T=none/\H'=mDA [aCL,x]/\∀xs,aQW,λi H=>∃xs:aK,aQX)
abbrev enB(h:Heap)(l:Addr):Heap:=(WQ h l).push {cls:= zA oE,data:= mAl #[.none,aNQ,mBx mF,rawInt 0,.none,.none]}
theorem Aos(l:Addr)(items:jX):Meets (Builtin.«enumerate.__new__» ([zA oE,eR],[])) (λ_ R s=>mDs mAr/\R (mGJ (mF (WQ s.heap l).objs.size)) {s with heap:=enB s.heap l}):=
 .of_wp λprog w A R s h=>by
  obtain⟨hp,g,d,tk,os⟩:=s;obtain⟨a,h⟩:=h;have b:=sub_enumerate;have e:=a;obtain⟨o,f,i⟩:=a
  wp_walk using aNT
  refine wpAny_stack_any λst=>cO;split
  .rename_i c _ _ _ _ _
   cases (c==zA Value.type)<;>(wp_walk using aNT,AtG e;exact aB2)
  wp_walk using aNT,AtG e
  exact aB2
theorem Aot(a:mDs mAr)
 (h:∀h',IsEnum h' cZ s.heap.objs.size 0 .none->mMF h'.IsTupleIter-> aLg ->Q (mF cZ) {s with heap:=h'}):
 wpAny bC A (call (zA oE) [eR]) Q E s:=by
 refine callType_new F.called_enumerate bB (F.typeCall_enumerate_1 _) (F.newCall_enumerate_1 _) (λobj=>F.args_object_init_2 obj _) F.entry_enumerate_new (mDs Aos) (oH a);have he:(enB s.heap l).get? (WQ s.heap l).objs.size=some _:=eQ;rw[(AsX ..)] at he⊢;exact((sZ he),h _ he (_,pK eQ,29) λb o y=>oA pK y)
theorem Aou(a e it:Addr)(c:e≠a)(d:a≠it):
 F3 P w K aMN (WR K a) [e,it] e (mMW aGp) where
 mem:=by simp
 obj:=λi h st b hb=>by obtain⟨⟨BM,he⟩,⟨o,f,hc,hd⟩,_⟩:=st;grind
 keep:=λi h h' st k=>let((BM,he),g,r):=st;(aLD,mBY g.at it,r)
 item:=by
  intro X j hw l hc i pins s σ H E m hf st hg;subst j hw l;obtain⟨⟨BM,he⟩,hit,n⟩:=st;obtain⟨xs,x,hq,hx⟩:=hg;obtain⟨y,B,p,hz⟩:=m.tuple hq;obtain⟨u,hu,C⟩:=B.get hx;have D:=Asu he;have ac:yP it:=(by obtain⟨_,q,_⟩:=hit;exact Asu q);refine wpAny_pyNext_enum_itemD (Aol (prog:=X.prog) (w:=X.w) (A:=X.A.in1) (b:=false) (m.ok.hd hc) it a d y.toArray) he (hit,p) (by have:=(nS hu).1;simpa using this) n (by simpa using(n,c)) λv h' tk G f I J hsz hk=>?_;obtain rfl:v=u:=(by rw[List.getElem?_toArray,hu] at G;exact(Ase G).symm);refine(0,AuO (s:={s with heap:=h',toks:=tk+1}) f λL ae M=>?_);have N:=(M.2 _ (Auj D)).trans J;have new:C9 X.prog X.w aLE L s.heap.objs.size (.Al [aCL,x]):=(20,[.int i tk,v],rR bY (wC C),(_,N,30));have O:mMX L tk:=
   mNO (λb U hb q=>(M.2 b aBA).trans (mIU U))
  refine(eP,_,O,2,(mMY x m.Av.BC m.Ua),((oH v),Ec.at (b:=false) I.1 λo q=>(M.2 it (Asr n)).trans q,n),fM)
  .grind
  have Y:yP b:=by grind
  rw[mDC Y];exact(nJ hf).1
 done:=by intro X j hw l hc i pins s σ H E m hf st hg;subst j hw l;obtain⟨⟨BM,he⟩,hit,n⟩:=st;obtain⟨xs,hq,hx⟩:=hg;obtain⟨y,B,p,hz⟩:=m.tuple hq;obtain⟨f0,f1,f2,af,f4,ag⟩:=eA;have ah:=B.length;have J:s.TypeIs aDm "enumerate":=(sZ he);refine ArZ (AuN (mGC J F.slot_enumerate_next (Atf F.slot_enumerate_next J F.entry_enumerate_next ?_ (F.args_enumerate_next_1 _))));show qN (mKe e 2) _;refine ArZ (Ats he rfl (x:= iZ) rfl (mZ (WO (m.ok.hd hc) hit p dM λh' x hs hx'=>?_)));obtain⟨o,f,hc'⟩:=hx';exact ArZ (mFS (mO o f hc') (Asg (2,mNP (mIV hs))))
 self:=λA i s Q E st h=>let((_,he),_):=st;Aus he h
def Aov(K:PySem.W.Frag)(b:TA):TI:=λσ H R=>b σ H λvs H1=>∃a xs,vs=cP /\wA H1/\mAs WR
theorem Aow(c:cH)(hg:aLF)(hm:zA tS)(ha:PA X [e] d)(hs:xH e:=by rfl):
 PI X (mAF f g) aLG (Aov K d):=by
 subst c;intro pins s σ H R i h;refine AuA (mAE i Avf (mDc (A5 (xI H i) λus s1 (vs,H1,j,k,l)=>?_)));obtain⟨a,xs,ex,hq,q⟩:=l;subst ex
 cases k with
 |cons r m=>
  cases m
  cases r
  obtain⟨n,o,u,hz⟩:=aCz;obtain⟨oa,v,_⟩:=id u;have x:=Asu v;refine Aot u λh' he hit hk=>Aus he ?_;refine(187,mDD j.CF,Aou a aAy s1.heap.objs.size (Auj (Au7 x)) (AsP x),aSZ,fM,q);have hle:mDE b:=by rcases cF with z|z<;>rw[z]<;>first|exact aAz|exact aF
  exact mDF j.Hx j.Av.BC
end Vp
namespace Vp
open PySem PySem.Spec L2
section
variable {prog:Program} {w:World} {A:Around} {E:bK} {s:Shared}
def IQ(h:Heap)(d:Addr)(es:aCK)(ep:Nat):Prop:=∃o,oT d=aH /\o.ExactDict/\o.data= aAl
theorem IQ.at(x:aNU)(e:mJ7 d):IQ h' d es ep:=let(o,g,r):=x;(o,e o g,r)
theorem AeO(a:s.heap.IsValuesView v d)(hm:aIx)
 (b:mMT "dict_valueiterator"):wpAny bC A (pyIter (mF v)) Q E s:=by
 obtain⟨c,e,f,g⟩:=id a;obtain⟨o,h,hc,i⟩:=hm;refine wpAny_pyIter_slot a.typeIs F.slot_dict_values_iter (Atf F.slot_dict_values_iter a.typeIs F.entry_dict_values_iter ?_ (F.args_dict_values_iter_1 _));refine sU cG;unfold Builtin.Dict_items.dictOf;refine mZ (Ats e g (x:= dC) rfl (Asg cG));unfold Builtin.Dict_items.newIterator;refine mZ (Aur h i (pO AuW h i));simp only[show aNV=false by decide,Bool.false_eq_true,if_false];refine As_ (Asg (0,"dict_valueiterator",_,aEA,AtF.lookup,5));simpa[rawInt] using b
theorem AeP(hit:mOM i)(hm:aIx)(hx:es[i]? =mB a)
 (b:∀h',mGM h'.IsValIter (i+1)->yQ it->Q (mB a.val) {s with heap:=h'}):wpAny bC A aD9 Q E s:=by
 obtain⟨o,c,hc,hd⟩:=id hit;obtain⟨od,e,_,f⟩:=hm;refine aVR;refine sU (mZ cG)
 first|refine wQ Aue|refine wQ Auy
 refine mIR c;simp only[show aNV=false by decide,Bool.false_eq_true,if_false];show mDz d s;rw[aIu];refine sU (pO Aur e f);rw[kF];refine sU (pO AuW e f);rw[kF];refine cO;obtain⟨g,h⟩:=AvX.mp hx;simp only[show¬ aLz from by omega,if_false,Int.toNat_natCast,mON g];refine cG
 first|refine wQ Aue|refine wQ Auy
 refine vZ Avr hit.typeIs;show qN (setField iZ 1 (rawInt ((i:Int)+1)) >>= _) s;refine mFR c;have st:mGM (mB1 mOO).IsValIter (i+1):=(_,mOA c,aVJ,by rw[Au_ hd];simp[rawInt]);refine ArZ (Au0 (mZ (mOP (mZ (mOP ?_)))));rw[h];exact Asg (Asg (0,Asg (b _ st (AtD ..))))
theorem AeQ(c:lH)(hit:mOM i)(hm:aIx)(hge:es.size<=i)
 (e:aSS):wpAny bC A aD9 Q E s:=by
 obtain⟨o,f,hc,hd⟩:=id hit;obtain⟨od,g,_,h⟩:=hm;refine aVR;refine sU (mZ cG)
 first|refine wQ Aue|refine wQ Auy
 refine mIR f;simp only[show aNV=false by decide,Bool.false_eq_true,if_false];show mDz d s;rw[aIu];refine sU (pO Aur g h);rw[kF];refine sU (pO AuW g h);rw[kF];refine cO;simp only[show¬ aLz from by omega,if_false,Int.toNat_natCast,mIQ hge];refine cG
 first|refine wQ Aue|refine wQ Auy
 show aSV;refine mFR f;show aVI;refine cG;simp only[newExc,newTuple];refine mZ aCJ;refine aSW;refine aCJ;simp only[raiseNew];refine aLA;rw[show A.in1.handled=none from c];refine aSX;refine vZ mFS aEA;exact Asg (e _ aLB)
end
section
variable {X:Cx} {pins:bA} {σ:St} {H:Hp} {s:Shared} {d:Addr} {o:Obj}
theorem WS(a:aE)(h:H d=mGN c):
 (d==sysModules)=false/\nU d=aH /\o.ExactDict/\∃(es:aCK)(ep:Nat),o.data= aAl /\es.size=c.length/\∀(i:Nat)(k:Ky)(v:V),c[i]? =aGZ ->∃f:DictEntry,es[i]? =mB f/\AJ v f.val:=by
 obtain⟨hd,z,hs,xs,pr,o',es,ep,g,hx,j,he,_⟩:=a.Av d _ h;rw[hd] at g
 cases g
 refine(hs,hd,hx,68,j,5,λi k v e=>?_)
 .have l:=mKf he;have m:=xD pr;omega
 obtain⟨b,hb,n,p,e3⟩:=Z1 pr e;have q:=entry_at he i;rw[hb] at q;exact(_,q,e3)
end
def SJ(d:Addr)(o:Obj)(a:bH):It:=
 (λi H=>H d=mGN a/\i<a.length,λi H x H'=>H'=H/\∃k,a[i]? =mB (k,x,),λi H=>H d=mGN a/\a.length<=i)
theorem Aox(it:Addr)(a:aGY):F3 P w K f (SJ d o g) [it] it (λi h=>mGM h.IsValIter i) where
 mem:=by simp
 obj:=λi h st b hb=>by have e:b=it:=cF;subst e;obtain⟨j,e,c,dd⟩:=st;grind
 keep:=λi h h' st k=>let(j,e,r):=st;(j,k it aC j e,r)
 item:=by intro X l hw m hc i pins s σ H E n hf st hg;subst l hw m;obtain⟨hd,q⟩:=hg;obtain⟨f0,f1,f2,u,f4,x⟩:=eA;obtain⟨hs,y,hx,z,B,C,hsz,ent⟩:=WS n hd;obtain⟨rfl,rfl⟩:=Rt a C;obtain⟨⟨k,v⟩,D⟩:∃p,g[i]? =some p:=(g[i],mJ q);obtain⟨G,I,J⟩:=ent i k v D;refine AeP st (o,y,hx,C) I λh' L M=>?_;obtain⟨j,e,c,dd⟩:=id L;exact(G.val,2,mFQ dd (v,H,mOQ (λb N hb e=>(nJ M.2).trans e),J,(mO rfl k D),L,aBi))
 done:=by intro X l hw m hc i pins s σ H E n hf st hg;subst l hw m;obtain⟨hd,q⟩:=hg;obtain⟨f0,f1,f2,u,f4,x⟩:=eA;obtain⟨hs,y,hx,z,B,C,hsz,ent⟩:=WS n hd;obtain⟨rfl,rfl⟩:=Rt a C;exact AeQ (n.ok.hd hc) st (o,y,hx,C) aA λh' O=>(2,mOQ (λb N hb e=>O b N hb e))
 self:=λA i s Q E st h=>wpAny_pyIter_valiter st h
def Aoy(a:TE):TI:=λσ H R=>a σ H λx H1=>∃d o b,x= dC /\H1 d=mGN b/\R (SJ d o b) H1
theorem AeR(lo:aLy)(hm:aIx)
 (h:mOR "dict_values" #[dC]):wpAny bC A (uQ "dict.values" [dC]) Q E s:=by
 obtain⟨o,a,hc,hd⟩:=hm;have b:s.TypeIs dC "dict":=(mO o a hc.1);refine Atf AvS b F.entry_dict_values ?_ (F.args_dict_values_1 _);refine cG;unfold Builtin.Dict.noArgs;refine vZ Avq b;show qN (pure d) s;refine cO;show aSR;unfold Builtin.Dict.showsAll;rw[mAj lo];exact sU (yN As_ aB2)
theorem AeS(he:nR e a)(c:uP e "values":=by rfl)(f:wF g.line:=by rfl):PI X i (mOS e g) (Aoy a):=by intro pins s σ H R j h;refine Au9 (T:="dict") (id:="dict.values") c rfl f Auo AvS F.type_dict_values (A5 aCr λu s1 (x,H1,k,l,d,o,m,ex,hd,q)=>?_);subst ex;obtain rfl:tU d:=l;obtain⟨hs,n,hx,es,ep,p,hsz,ent⟩:=WS k hd;refine(mOT (mO o n hx.1) (mO o n hx.2.1));refine mBR (AuQ (AeR hs (o,n,hx,p) ?_));exact AeO (d:=d) (es:=es) (ep:=ep) jB (o,pK n,hx,p) (mBX (k.CF (t':=s1.toks) λb r q=>pK q) (Aox _ p) jB)
end Vp
namespace Vp
open PySem PySem.Spec L2
section
variable {prog:Program} {w:World} {K:Type} [mDw K] {knd:HeapKind prog w K} {A:Around} {E:bK} {s:Shared}
theorem Aoz(hu:knd.room A)(b:tQ knd.is k a)(hm:aVS)(hsz:mDd pX)
 (c:∀p,aBx=gH ->Q p.2 {s with toks:=s.toks+aB3})
 (f:aBx=none->∀h',aVT ->yQ d->Q x {s with heap:=h',toks:=s.toks+aB3}):wpAny bC A (mOU x) Q E s:=by
 obtain⟨o,es,ep,g,hc,hd,he,h,i⟩:=hm;unfold dictSetDefault
 try with_reducible refine Au0 ?_
 refine ArZ (knd.pyHash hu b (ArZ (wpAny_dictFind_heap (s:={s with toks:=s.toks+aB3}) hu b g hd he h i (λl=>?_) λj p hj=>?_)))
 .have m:=atKey_none_of_get l;have n:=mKf he;refine ArZ (Ava (ArZ (wpAny_updateDictKeys (hz:=by omega) (s:={s with toks:=s.toks+aB3}) g hd (Asg (f m _ (19,ep+1,AuC _ g (Obj.isFreed_of_dict aVU),hc.mapDictKeys _,aVU,51) (AtD ..))))))
  .rw[aNW];simp[he,entryOfKey]
  .rw[aNW];intro y hy;rcases oS hy with hy|hy
   .exact mOV (h y hy)
   obtain rfl:y=(k,a,x,):=(mR hy);exact mOV b
  rw[aNW,As7,AsT];refine(i,9,λy hy z hz e=>?_);obtain rfl:z=k:=(mR hz);exact not_mem_keys_of_get l (e▸hy)
 have q:=atKey_of_get i hj;refine mZ (Aur (s:={s with toks:=s.toks+aB3}) g hd ?_);rw[entry_at he j,hj];exact yN Ava (c p q)
theorem Ao0(d a:Addr)(hd:aLy)(x:Value):MeetsIn prog w (Builtin.«dict.setdefault» ([dC,aI,x],[])) (λA R s=>knd.room A.in1/\∃k xs,tQ knd.is k a/\ aVS /\xs.length<=sizeLine/\
 (∀p,aBx=gH ->R (mGJ p.2) {s with toks:=s.toks+aB3})/\
 (aBx=none->∀h',aVT ->yQ d->R (mGJ x) {s with heap:=h',toks:=s.toks+aB3})):=
 .of_wp λA R s (hu,k,xs,b,hm,hz,c,e)=>by refine cG;unfold Builtin.Dict.keyAndDefault;refine vZ Avq hm.typeIs;show qN (pure (d,rE a,aY,)) s;refine cO;show qN (if(mDj d)=true then _ else(mOU x >>= _)) s;rw[mAj hd];exact ArZ (Aoz hu b hm hz (λp hp=>Asg (p.2,2,rC c)) λf h' g h=>Asg (x,2,e f h' g h))
end
section
variable {X:Cx} {pins:bA} {σ:St} {H:Hp} {s:Shared} {a:Addr} {y d:V} {u r:Value} {A:Around} {E:bK}
def DSd(H:Hp)(a:Addr)(y z:V)(Q:VK):Prop:=∃o,xO H/\((∃v,o=bJ /\ lD)\/(o=none/\∃H',mIM z/\oJ z))
theorem Ao2(hu:lG)(f:aE)(g:xO H)(h:eO)(i:AJ d r)(j:∀v,o=bJ ->∀m n,sI H n->AJ v m->Q m n)
 (x:o=none->∃H',mIM d/\∀n,sI H' n->Q r n):wpAny bM A (uQ "dict.setdefault" [aI,u,r]) Q E s:=by
 rcases g with⟨B,k,e,C,l⟩|⟨B,k,b,e,C,D,l⟩
 .subst C;obtain⟨z,hd,vs,rel,dd⟩:=Jp f.Av e;have G:=lI;refine AuY AuF dd.typeIs AvA (uR Av5) (kt_meets_setdefault aEg a (MK h) hd r)
   (vs,dd,by rw[<-rel.length];exact z,λv aa=>?_,λI h' J hs=>?_)
  .cases L:Bc B k with
   |none=>rw[L,aa] at G;exact G.elim
   |some v0=>rw[L,aa] at G;exact mOW v
  have L:xN B k:=by
   cases L:Bc B k with
   |none=>rfl
   |some v0=>rw[L,I] at G;exact G.elim
  obtain⟨H',hp,q⟩:=x aNX;rcases hp with⟨M,k',e',N,O,T⟩|⟨M,k',ab,e',N,ac,O,T⟩
  .obtain rfl:=AiX N;have U:M=B:=by
    rcases e with e|⟨o',e⟩
    .rw[e'] at e;cases e;rfl
    rw[e'] at e;cases e
   subst U T;have Y:pX (Dy M k d).length:=(mFO M k d);exact q _ (OS f (mKg e') hs (let(q,_,_,hq,_):=J;(q,hq)) (Zo Y hd (rel.CA k i) J))
  cases k<;>cases N
 subst C
 cases (mFn b h)
 obtain⟨z,hd,xs,rel,dd⟩:=Kk f.Av e;have G:=lI;refine AuY AuF dd.typeIs AvA (uR Av5) (Ao0 (knd:=aGV) a b hd r)
  (ML hu,k,xs,Il f.Av D,dd,by rw[<-xD rel];exact z,hE,λI h' J hs=>?_)
 .rw[hp] at G
  cases L:Bc B k with
  |none=>rw[L] at G;exact G.elim
  |some v0=>rw[L] at G;exact mOW p.2
 rw[I] at G;have L:xN B k:=by
  cases L:Bc B k with
  |none=>rfl
  |some v0=>rw[L] at G;exact G.elim
 obtain⟨H',hp,q⟩:=x aNX;rcases hp with⟨M,k',e',N,O,T⟩|⟨M,k',ab,e',N,ac,O,T⟩
 .cases k'<;>cases N
 cases N
 have U:M=B:=by
  rcases e with e|⟨o',e⟩
  .rw[e'] at e;cases e;rfl
  rw[e'] at e;cases e
 subst U T;have ae:k'=k:=by exact aGV.inj (Il f.Av ac) (Il f.Av D)
 subst ae;have Y:pX (Dy M k' d).length:=(mFO M k' d);obtain⟨af,es,ep,hq,g2,g3,ag,_,ah⟩:=J;refine q _ (OS f (mKg e') hs (af,hq) (Y,hd,_,(rel.CA k' D i).keeps λc ys ai=>?_,af,68,hq,g2,g3,ag,ah));rw[Ah (mBU ai e')];exact ai
end
def Ao3(b ty c:TE):TE:=λσ H Q=>b σ H λx H1=>∃a,x= aI /\Rm H1 a/\ty σ H1 λy e=>c σ e λz f=>DSd f a y z Q
theorem WT(hu:lJ)(b:nR o c)(he:nR e ty)(hf:nR f i)(m:M2 X o "setdefault" apos e f j):PE X (.Call (mA2 o "setdefault") [e,f] [] j) (Ao3 c ty i):=by
 intro pins s σ H Q k h;refine Au9 m.base m.AA m.line Auo AuF PySem.F.type_dict_setdefault (A5 (oQ b k) λu s1 (x,H1,l,n,a,ex,d,p)=>?_);subst ex;obtain rfl:tU a:=n;obtain⟨t1,B,_⟩:=UL l d;refine(rF t1 B);rw[m.Rl];refine Ato rfl (Auv (At7 (A5 (rT he l p) λiv s2 (y,C,D,G,I)=>
  At7 (A5 (hf pins s2 σ C _ D I) λaa s3 (z,J,L,M,ab,g,N)=>Aua ?_))))
 refine Ao2 hu L g G M (λv O ac s4 T ae=>?_) λU=>?_
 .rcases N with⟨v',Y,q⟩|⟨U,_⟩
  .rw[O] at Y;cases Y;exact(v,J,T,ae,q)
  rw[O] at U;cases U
 rcases N with⟨v',Y,q⟩|⟨_,H',hp,q⟩
 .rw[U] at Y;cases Y
 exact(H',hp,λs4 T=>(z,H',T,M,q))
end Vp
namespace Vp
open PySem PySem.Spec L2
theorem Ao4:DW X aEr (λxs H Q=>∃a b,xs=cP /\tR (.dK b)/\uO mAR mE):=by intro pins s σ H vs us Q c r h;obtain⟨a,b,rfl,e,q⟩:=h;rw[aBu];exact Ajc c e λt d f=>(mAR mE,H,f,aBt,q)
theorem Ao5:EM X "int.bit_length" (λx xs H Q=>∃n:Int,x= mE n/\xs=[]/\mGO Builtin.Int.intBits n):=by
 intro pins s σ H x xs v us Q a b c h;obtain⟨n,rfl,rfl,q⟩:=h;obtain⟨t,rfl⟩:=b
 cases c
 exact call_gives F.slot_int_bit_length (mFE s n) F.entry_int_bit_length (F.args_int_bit_length_1 _) (AutoIntG2.int_bit_length_int_0 n t) (mJU a.BW)
def Ao6(K:PySem.W.Frag):aAs:=λvs H Q=>∃(a:Addr)(ns:bG),vs=aCD /\ iC /\
 ∀(b:bG)(p:Addr),b.Perm ns->b.Pairwise (·<=·)->H p=none->mAx H (b.map V.int)
theorem Ao7(b:cH):DW X (tT "sorted") (Ao6 K):=by subst b;intro pins s σ H vs us Q c r h;obtain⟨a,ns,rfl,hs,q⟩:=h;obtain⟨d,e,f,hz⟩:=c.list hs;rw[aBu];have g:=e.ints;rw[ArX] at hz;refine PyProof.Rows.sorted_intsAny f.isList g (oD g.length hz) λout i j k l=>?_;obtain⟨ep,m⟩:=tQ Awe d out;exact(.ref _,nX cZ (.Ac (i.map V.int)),c.DV (t':=s.toks) (λ_ _=>AvY) iA ((mCr k.length_eq hz),out.toList,ep,U7 j,m),2,q i _ k l (c.Av.BC iA))
def Od(K:PySem.W.Frag)(C:Addr):Prop:=∃(nm q:Str)(N:Addr)(bs:aT)(a:Bool)(sn:bZ)(sub:aT)(b:Bool)(col:oG Bool)(dd:hV)(c d e f g:aCm)(newId:String),
 rS C=aTy /\ aTz=true/\ aMg=kD /\ aMh=kD
theorem AeT(a:aE)(b:Od X.K C)(e:H x=hJ):s.heap.CmpInst x C [oE "object"]:=by obtain⟨nm,q,N,bs,c,sn,sub,d,col,dd,f,g,h,i,j,newId,k,l,he,m⟩:=b;obtain⟨n,O,_⟩:=QQ a.Av e;obtain⟨od,J,_⟩:=O.Ll;exact(_,nm,q,N,bs,c,sn,sub,d,col,dd,f,g,h,i,j,newId,_,J.at_,J.cls,a.E3 C _ k,.of_isNs (PySem.W.isNs_of_in a.E3 l),Awr a.E3 l he,Awr a.E3 l m)
def Ao8(K:PySem.W.Frag):hK:=λx xs H Q=>∃(a p:Addr)(C:Addr)(b:aP),x= aI /\xs=[aS]/\tV (nF b.map)/\Od K C/\(∃dx fs,H p=hJ)/\(∀q∈b,∃dx fs,H q=hJ)/\mGO b.count p
theorem Ao9(b:cH)(hu:lJ):EM X "list.count" (Ao8 K):=by
 subst b;intro pins s σ H x xs v us Q c f i h;obtain⟨a,p,C,j,rfl,rfl,hq,k,⟨dx,fs,hp⟩,l,q⟩:=h
 cases f
 obtain⟨u,rfl,m⟩:=AB.FN i
 cases m
 obtain⟨A,B,D,G⟩:=c.list hq;have I:A=j.map Value.ref:=by
  clear hq l q D G
  induction j generalizing A with
  |nil=>cases B;rfl
  |cons q j J=>
   cases B with
   |cons r L=>cases r;rw[Asn,<-J _ L]
 obtain⟨o,n,M,N,e3,O⟩:=id D;obtain⟨cls,dd,data,sl⟩:=o;simp only at N e3 O;subst N e3 O;refine Auc PySem.F.slot_list_count (sZ M) PySem.F.entry_list_count (PySem.F.args_list_count_2 _ _) (SeqAt.list_countAt a A.toArray n none sl aS (λy=>decide (y= aS))) (rF M hQ)
 .rw[I] at hy;obtain⟨z,hz,rfl⟩:∃z,z∈j/\y= .ref z:=by
   grind
  by_cases e:z=p
  .subst e;simp;exact aLb
  have T:¬(rE z=rE p):=λw=>e (by injection w);rw[mS T];obtain⟨aa,ab,U⟩:=l z hz;refine SeqAt.EqAt.of_refs e λprog w E ac Y=>?_;obtain⟨ae,g,d,t,os⟩:=s;exact richCompare_eq_other PySem.F.cmp_object PySem.F.cmp_object (AeT c k U) (AeT c k hp) e aT7 Y
 have hc:A.toArray.toList.countP (λy=>decide (y=rE p))=j.count p:=by rw[I,AvH,List.countP_map,List.count];congr 1;grind
 rw[hc];exact(mJU c.BW)
def AoA(K:PySem.W.Frag)(b:TE):TE:=λσ H Q=>b σ H λx H1=>∃(a:Addr)(ns:bG),x=nC a/\Ae K H1 a iB /\
 ∀(c:bG)(p:Addr),c.Perm ns->c.Pairwise (·>=·)->H1 p=none->mAx H1 (c.map V.int)
theorem AoB{j}(c:cH)(hg:Gl X "sorted")(hm:tS "sorted")(ha:nR e d)(f:mC7 ("sorted":Str):=by decide)(g:uM ("sorted":Str):=by decide)
 (he:xL [e]=[(false,oU e,)]:=by rfl) (i:(xL [e]).any (·.1)=false:=by rfl):PE X (.Call (.Name "sorted" p) [e] [(mB "reverse",.Constant (.bool true) j k,kp)] pos) (AoA K d):=by
 subst c;intro pins s σ H Q l h;refine AtW (Gp l hg hm AcQ ?_ f g);refine PyProof.Rows.callWith_kw ?_ (qF he) i;rw[he];refine At7 (A5 (oQ ha l) λu s1 (x,H1,m,n,a,ns,ex,hs,q)=>Aua (PyProof.Rows.kws_cons (PyProof.Rows.Constant_bool (PyProof.Rows.kws_nil ?_))));subst ex;obtain rfl:tU a:=n;obtain⟨o,r,v,hz⟩:=m.list hs;have y:=r.ints;rw[ArX] at hz;refine PyProof.Rows.sorted_ints_revAny (b:=true) v.isList y (oD y.length hz) λout z A B C=>?_;obtain⟨ep,D⟩:=Awe s1.heap o out;exact(.ref _,mF2 aAy (z.map V.int),m.DV (t':=s1.toks) (λ_ _=>AvY) iA ((mCr B.length_eq hz),out.toList,ep,U7 A,D),2,q z _ B C (m.Av.BC iA))
theorem AoC:PySem.W.KdlSrc prog w "dict_values" r d es.size (λi v=>∃a,es[i]? =mB a/\v=a.val) (λh=>h.IsValuesView r d/\ aNU) where
 type:=λ_ hm=>hm.1.typeIs
 there:=λ_ hm=>(let(_,c,_):=hm.1;Asu c,let(_,c,_):=hm.2;Asu c)
 keep:=λ_ _ hm hk=>(let(o,c,x):=hm.1;(o,hk r aZ o c,x),hm.2.at λo e=>hk d dZ o e)
 notList:=by decide
 notTuple:=by decide
 hint:=λ_ _ _ _ hm hq=>PySem.W.kdl_hint_values hm.1.typeIs hq
 iter:=λA s f hm=>by
  have g:=let(_,c,_):=hm.2;AsP (Asu c);refine(_,λi h=>h.IsValIter s.heap.objs.size d i es.size ep/\ aNU,(λ_ _ hq=>AeO hm.1 hm.2 hq),(λb hb=>by simp at hb;simp[hb],λ_ _ _ st hk=>(let(o,c,r):=st.1;(o,hk _ aC o c,r),mIP hk d),λi j Q E k st l=>?_,λj Q E st l=>?_,λ_ _ _ _ st l=>wpAny_pyIter_valiter st.1 l),(jB,hm.2.at λo e=>jA))
  .have hx:pC es[i]? es[i]:=(by simp[k]);exact AeP st.1 st.2 hx λh' m n=>l _ h' j.toks (sZ hx) (m,st.2.at λo e=>(n.2 d g).trans e) λb o hb e=>(n.2 b aBA).trans e
  exact AeQ f st.1 st.2 aF λh' p=>l h' j.toks λb o hb e=>p b o aBA e
theorem AeU:∀{xs:aK}{us:aT},xs.length=us.length->(∀(i:Nat)(x:V),xs[i]? =aY ->∃u,us[i]? =aM /\sV x)-> fG
 |[],[],_,_=> .nil
 |[],_::_,a,_=>by simp at a
 |_::_,[],a,_=>by simp at a
 |x::xs,u::us,a,h=>by
  obtain⟨u',e,r⟩:=h 0 x rfl;have:u=u':=hS;subst this;exact rR r (AeU (mR a) λi y e=>by simpa using h (i+1) y hS)
def AoD(a:TE):TE:=λσ H Q=>a σ H λx H1=>∃d b,x= dC /\Rd H1 d (.dT b)/\∀p,H1 p=none->mAx H1 (b.map (·.2))
theorem AoE(ok:gC)(e:tR (.dT c)):c.length<=sizeLine/\ aBd=false/\∃es ep,IQ h a es ep/\es.size=c.length/\
 ∀(i:Nat)(k:Ky)(v:V),c[i]? =aGZ ->∃d:DictEntry,es[i]? =mB d/\AJ v d.val:=by
 obtain⟨z,y,xs,r,o,es,ep,f,g,j,h4,l⟩:=(mMJ (.dT c));refine(z,y,68,(o,f,g,j),5,λi k v e=>?_)
 .have m:=mKf h4;have n:=xD r;omega
 obtain⟨b,hb,p,s,e3⟩:=Z1 r e;have q:=entry_at h4 i;rw[hb] at q;exact(_,q,e3)
theorem AoF(hc:fN)(hg:Gl X "list")(hm:tS "list")(a:nR o f)(g:mC7 ("list":Str):=by decide)(j:uM ("list":Str):=by decide)
 (k:uP o "values":=by rfl) (l:wF m.line:=by rfl)
 (he:mAt [aVV]=[(false,oU aVV,)]:=by rfl) (n:(xL []).any (·.1)=false:=by rfl):
 PE X (yU "list" [mOS o m]) (AoD f):=by
 intro pins s σ H Q v h;refine AtW (Gp v hg hm Ak4 ?_ g j);refine AsO ?_ he n;rw[he];refine At7 ?_;refine Au9 (T:="dict") (id:="dict.values") k rfl l Auo AvS F.type_dict_values (A5 (oQ a v) λu s1 (x,H1,y,z,d,A,ex,hd,q)=>?_);subst ex;obtain rfl:tU d:=z;obtain⟨hz,hs,es,ep,Bm,hsz,ent⟩:=AoE y.Av hd;obtain⟨od,B,C,D⟩:=id Bm;refine(mOT (mO od B C.1) (mO od B C.2.1));refine mBR (AuQ (AeR hs Bm (Aua ?_)));refine PySem.W.kdl_call (AoC (es:=es) (ep:=ep) (d:=d) (r:=s1.heap.objs.size)) (y.ok.hd hc) (jB,Bm.at λo e=>jA) (oD hsz hz) λh' tk acc c hk E G=>?_;rw[(AsX ..)] at E⊢;have I:AB aVW acc.toList:=by
  refine AeU (by have J:=G.1;have L:acc.toList.length=acc.size:=Aug;rw[ArX];omega) λi x e=>?_;rw[ArY] at e
  cases M:A[i]? with
  |none=>rw[M] at e;cases e
  |some N=>
   rw[M] at e;obtain rfl:N.2=x:=hS;obtain⟨O,U,aa⟩:=ent i N.1 N.2 M;have Y:i<acc.size:=(mAp G.1 (AvX.mp U).1);obtain⟨ab,ac,ae⟩:=G.2 i acc[i] (mON Y);grind
 exact(.ref _,mF2 aAy aVW,y.DV (λb o e=>hk b o jA) iA (161,acc.toList,c,I,by simpa using E),2,q _ (y.Av.BC iA))
end Vp
namespace Vp
open PySem PySem.Spec L2 Vf
section
variable {X:Cx} {K:PySem.W.Frag}
theorem AoG(b:Nat):mOX (b:Int)=((HL b:Nat):Int):=by
 by_cases h:b=0
 .subst h;rfl
 have e:-(b:Int)=Builtin.bitNot (((b - 1:Nat):Int)):=aNk;rw[e,Aee];rfl
theorem AoH:Bt X aGt (λx y H Q=>∃b:Nat,x= aBT /\y= mE (-(b:Int))/\mGO HL b):=by intro pins s σ H x y v u Q a c d q;obtain⟨b,rfl,rfl,q⟩:=q;refine Uk pins s σ H _ _ v u Q a c d aHP;show uO mQ (mOX (b:Int));rw[AoG b];exact q
theorem AoI:Bt X aRj aVa:=P8 AhV λa b=>by rw[Aeg]
theorem AoJ:Bt X aRg (rN (λa j=>a<2 ^ 64/\j<=1000) (·<<<·)):=Ww AhT (λa j h=>(4,4,by rw[Int.natAbs_natCast];exact h.1)) λa j _=>by rw[Aef]
theorem AeV{T id:String}(a:cH)(b:aGI)(slot:mBP T)(c:aCB)(hm:aCC)(d:kB)
 (e:uP o name:=by rfl) (f:wF g.line:=by rfl):PE X (mBQ [] g) (YV K T r to):=by subst a;exact AiC b slot c hm d e f
def AoK(K:PySem.W.Frag):aD8:=λx y H Q=>∃(p:Addr)(xs:aK)(i:Nat)(v:V),x= aS /\y= aCW /\ aEf /\xs[i]? =bJ /\ lD
theorem SK(a:cH):Yr X (AoK K):=by
 subst a;intro pins s σ H o i b iv Q c d e h;obtain⟨p,xs,i,z,rfl,rfl,hq,he,q⟩:=h
 cases d
 obtain⟨t,rfl⟩:=e;obtain⟨f,r,pl,hz⟩:=c.list hq;obtain⟨w,g,j⟩:=r.get he;have k:=(nS he).1;have l:=Ke;exact wpAny_getItem_list pl.isList aA aA (by rw[AtN];simpa using g) (z,H,c,j,q)
def SM(K:PySem.W.Frag)(b:TE):TI:=λσ H R=>b σ H λx H1=>(∃a,x= aI /\ aKA /\mAs Cf)\/ aVX \/∃d o c,x= dC /\H1 d=sW o (.dK c)/\R (Lv d o c) H1
theorem AeW(c:cH)(he:nR e f):PI X g e (SM K f):=by
 subst c;intro pins s σ H R i h;refine A5 (oQ he i) λu s1 (x,H1,j,k,l)=>?_;have m:∀b,b∈ aNY ->Gr X pins H1 b:=λb hb=>by obtain rfl:mIf b:=cF;exact j.Hx aF aBq
 rcases l with⟨a,rfl,⟨xs,hq⟩,q⟩|⟨a,rfl,⟨xs,hq⟩,q⟩|⟨d,o,n,rfl,hd,q⟩
 .cases k
  obtain⟨r,v,p,hz⟩:=aCy;exact At_ p.isList (mOY Ys)
 .cases k
  obtain⟨r,v,p,hz⟩:=aCz;exact AtG (show s1.heap.IsTuple a r.toArray from p) (mOY Yt)
 cases k
 obtain⟨hs,y,hx,es,ep,vs,z,hsz,A,hm⟩:=j.Rs hd;refine Z0 hs y hx z (mMV j z);rw[hsz]<;>rfl
end
end Vp
namespace Vp
open PySem PySem.Spec L2 Vf
section
variable {P:Program} {w:World} {K:PySem.W.Frag} {mg:aN} {base:Heap} {t:Aw}
def AoL:Sp:=λvs H Q _=>∃b:Nat,vs=[aBT]/\mGO HL b
theorem AoM:AD gR gR (A0 Z_):=aG
theorem SN(T:aD):A4 P w K mg base A9 1 t.Fl t.Abu gR AoL:=by
 refine mGP T.Fl.F.ok AoM
 .obtain⟨b,rfl,_⟩:=h;rfl
 obtain⟨b,rfl,k⟩:=h;exact(_,(oL (AE AoH aL (Db DX aL))),16,16,2,k)
theorem AoN(b:Nat):mA3 Builtin.Int.intBits=if b=0 then 0 else b.log2+1:=by unfold Builtin.Int.intBits;simp
theorem AoO{b x:Nat}(h:nI pM x)(a:aVY):b.log2=x:=by
 have h0:b≠0:=λe=>(by rw[e] at h;simp at h);have c:b<2 ^ (x+1):=by apply Atn;intro i d;exact a i aA
 have a1:=(Nat.le_log2 h0).mpr (Nat.ge_two_pow_of_testBit h);have a2:=(AwC h0).mpr c;omega
def AoP:Sp:=λvs H Q _=>∃b:Nat,vs=[aBT]/\b≠0/\b<2 ^ 500/\∀x,pM x=true-> aVY ->Q (tH mE x) H
theorem AoQ(h:b≠0):∃x,pM x=true/\∀y,x<y->pM y=false:=by
 refine(b.log2,5,λy hy=>At1 ((AwC h).mp hy))
 cases hb:pM b.log2 with
 |true=>rfl
 |false=>
  exfalso;have a:=(Nat.le_log2 h).mp (Asb b.log2);have:b<2 ^ b.log2:=by
   apply Atn;intro i c;by_cases e:i=b.log2
   .subst e;exact hb
   exact At1 (yL ((AwC h).mp (Avl _)))
  omega
theorem AoR:AD gR gR (A0 Aaa):=aG
theorem AeX(T:aD):A4 P w K mg base A9 1 t.Ir t.Abv gR AoP:=by
 refine mGP T.Ir.F.ok AoR
 .obtain⟨b,rfl,_⟩:=h;rfl
 obtain⟨b,rfl,h0,hb,k⟩:=h;refine(_,(Ao (A3 (AE G7 Ar (zN (AeV (K:=K) rfl F.plainAttrs_int F.slot_int_bit_length F.type_int_bit_length Ao5 aL))))),5);obtain⟨x,d,e⟩:=AoQ h0;have f:=AoO d e;have g:x<500:=by rw[<-f];exact(AwC h0).mpr hb
 refine(0,30,2,8,(1),x,2,5,aIy,k x d e);rw[AoN,mM h0,f];exact AtB V.int (show((x+1:Nat):Int) - 1=(x:Int) by omega)
def SO(b:Nat)(a:aB):Prop:=a.Nodup/\∀x,x∈a↔pM x=true
def Fb(a:aB):List Nat:=a.map λx=>1<<<x
def AoS:Sp:=λvs H Q _=>∃b:Nat,vs=[aBT]/\b<2 ^ 1000/\∀a D H',SO b a-> aO ->H D=none-> dQ=nW (Fb a)-> eS
theorem WU:AD ["bits","singles"] gR (A0 Aab):=aG
theorem WV(T:aD):A4 P w K mg base A9 2 t.G0 t.Abw gR AoS:=by
 refine T.G0.F.ok WU cM aNZ
 .obtain⟨b,rfl,_⟩:=h;rfl
 obtain⟨b,rfl,hb,k⟩:=h;refine(_,(Ak (tE WU.nd eU)
  (Ak (Ka Asq (qR aL) (Ak (Cu (mJg aQ aVZ))
  (Ao (Hw (i:=0) WU.nd rfl eG aVZ AoI))))
  aCZ)),5)
 refine(aR,λD g=>(λm σ H1=>∃(r:Nat)(j:aB),m=r/\σ=[aN0,mG D]/\ fS /\H1 D=nW (Fb j)/\j.Nodup/\ aV0 /\ aV1,(b,b,[],29,mP g,Af,Auw,λx=>by simp,λx _=>by simp),5));rintro m σ H1 ⟨r,j,rfl,rfl,s1,l,n,hmem,o⟩;refine aAD;by_cases h0:m=0
 .subst h0;refine Az (0,k j D H1 (n,λx=>by rw[hmem];simp) s1 g l)
 rw[show(((m:Nat):Int) != 0)=true by simp;omega];obtain⟨x,p,u⟩:=AnK h0;have v:=WB p u;obtain⟨B,C⟩:=o x p;have G:x<1000:=by
  have:=(hmem x).mpr (mI p);rcases Atq x 1000 with h|h
  .exact h
  rw[mKh hb h] at this;cases this
 have I:=AnL p u;refine Au (λJ H'=>∃L,L<m/\∃(r:Nat)(j:aB),L=r/\J=[aN0,mG D]/\ aO /\ dQ=nW (Fb j)/\j.Nodup/\ aV0 /\ aV1,λJ H' q=>q,5);refine(0,pL l,0,m,2,D,8,l,BA (by rw[ArX,Fb,ArX];omega),16,m,2,13,m^^^HL m,5,m^^^HL m,j++[x],29,qH s1 g,51,5)
 .rw[v];have M:m^^^1<<<x=Ch m (1<<<x):=by
   apply Atg;intro i;rw[<-v,I,Hq,v,AsE,AtP];by_cases e:x=i
   .subst e;simp
   have:i≠x:=λz=>e z.symm;simp[e,this]
  rw[M,<-S1];have N:=(M0 _ _).mpr (x,p,mGv x);omega
 .rw[Af,v];simp[Fb]
 .rw[AsT];refine(n,9,aV2);obtain rfl:c=x:=aF4;exact B (e▸ha)
 .intro y;rw[hmem,I,As0,Atb];by_cases e:y=x
  .subst e;simp[p]
  simp[e]
 intro y hy;rw[I] at hy;simp at hy;obtain⟨O,U⟩:=o y hy.1;have Y:x<y:=by
  rcases Atq y x with h|h
  .rw[u y h] at hy;exact nL hy.1 aC
  omega
 refine(5,by rw[Asi,AsD];omega);rw[As0,Atb];rintro(h|h)
 .exact O h
 exact hy.2 h
theorem BL(s:aO)(h:nA H' p):nA H p:=by
 cases e:H p with
 |none=>rfl
 |some o=>rw[s p o e] at h;cases h
theorem GG{A B:hI}(h:A H):MF σ H λb a=>if b=true then A a else B a:=by show(if true=true then A H else B H);rw[bE];exact h
def AoT:Sp:=λvs H Q _=>∃b:Nat,vs=[aBT]/\b<2 ^ 1000/\(∀a,SO b a->a.length<=14)/\∀(l:aB)D H',aO ->H D=none-> dQ=nW l-> eS
abbrev AoU:List Str:=aV3
theorem Oe:AD aV3 gR (A0 U_):=aG
theorem AoV(T:aD):A4 P w K mg base A9 3 t.LJ t.Abx gR AoT:=by
 refine mB2 T.LJ.F.ok Oe
 .obtain⟨b,rfl,_⟩:=h;rfl
 obtain⟨b,rfl,hb,f,k⟩:=h;refine(_,(Ak (tE Oe.nd aHS)
  (Ak (rJ (qC (mOZ aBM)) (oC 2 Oe.nd) (Ao (tE Oe.nd (vN aQ (Dk rfl Oe.nd aEH (qD ("choice",3,) AoU U_) (pE 3 Oe.nd) cI (pZ (AE J3 bF aW)))))))
  aCZ)),5)
 refine(21,λD g=>(0,b,2,hb,λm L n o s0 q r=>(mGQ L r)));have u:=f m o;have s1:=mX (mP g) s0;refine E4 (K:=K) (a:=L) (xs:=iv (Fb m)) (λj σ H1=>∃(l:aB)(v:Addr)(v2:bO),σ=[mA3 mW,mG v,v2,none]/\Ab n H1/\H v=none/\H1 v=nW l/\l.length=2 ^ j)
  ([0],D,58,2,aGi,g,mC s0 Af,2) (λj σ H1 _ (_,_,_,_,s2,_)=>nD s2 r) ?_ ?_
 .rintro j y σ H1 hj ⟨l,v,v2,rfl,s2,z,B,hlen⟩;rw[ArY] at hj;obtain⟨bt,C,rfl⟩:mO0 m:=by
   cases e:(Fb m)[j]? with
   |none=>rw[e] at hj;cases hj
   |some x=>rw[e] at hj;exact lU
  have aa:j<14:=by have:=(nS C).1;rw[Fb,ArX] at this;omega
  have ab:2 ^ j<=2 ^ 13:=As5 aA aA;refine(16,v,2,(oM B),λM G=>?_);refine EA (J:=qJ v) l.length (λi I=>tD I/\I M=nW ((zC i).map (·|||bt))) (yB G)
   (λi I N O=>(sO O.1 B N)) (λI O=>(rO O.1 B)) ?_ ?_
  .rintro i I y ac N ⟨s3,U⟩ ⟨rfl,hy⟩;have Y:=qW s3 B;rw[ArY,mJ N] at Y;simp at Y;subst Y;refine jM;refine(16,13,_,U,mA4 AsS,qH s3 G,5);have e:sS l.take=zC i++[l[i]]:=(vB AsA N);rw[Af,e,iv,iv,As7,As7];rfl
  rintro I ⟨s3,U⟩;rw[AsC] at U;refine(v,M,8,rY B,U,AL (by rw[ArX,ArX,ArX];omega),λp hp=>(l++sD (·|||bt),p,0,mKi aAI hp,BL aHY hp,23,by rw[Asi,ArX,hlen,Nat.pow_succ];omega))
 rintro σ H1 ⟨l,v,v2,rfl,s2,z,B,hlen⟩;exact(0,k l v H1 lS z B)
def Hd(a b:Int):Int:=if b<a then b else a
theorem SQ(a b:Int):Hd a b=min a b:=by unfold Hd;split<;>omega
theorem Mo(h:a≠b):Aa (nX a x) b y=Aa (nX b y) a x:=by
 funext c;by_cases d:c=a
 .subst d;rw[Ah h,Af,Af]
 by_cases e:c=b
 .subst e;rw[Af,nQ h,Af]
 rw[Ah e,Ah d,Ah d,Ah e]
structure Ed where
 fin:Bool
 W:Nat
 r:Int
 c:Int
abbrev Of(v:Ed):List gG:=[("is_finish",.bl v.fin,),("words",mE (v.W:Int),),("rest",mE v.r,),("room",mE v.c,)]
def Cd(t:Aw)(H:Hp)(a:Addr)(v:Ed):Prop:=∃dx,H a=pI t.FS (Of v)
theorem Cd.same(h:tI H a)(s:aO):Cd t H' a v:=let(dx,e):=h;(dx,nH e)
def AeY(t:Aw):Sp:=λvs H Q _=>∃(p dx:Addr)(v:Ed),vs=(mO1 aS)/\H p=rM t.FS/\sP (qV aV4)
theorem AoW:AD aHl aHl (A0 Aac):=aG
theorem KJ(T:aD):A4 P w K mg base A9 1 t.G1 t.Aby aHl (AeY t):=by
 refine qI T.G1.F.ok AoW
 .obtain⟨p,dx,v,rfl,_⟩:=h;rfl
 obtain⟨p,dx,v,rfl,hp,k⟩:=h;refine(_,(Ak aAG
  (Ak lQ
  (Ak (oF bF)
  (Ao (oF bI))))),5)
 refine(69,93,T.NA,52,38,189);rw[B1];refine(mAW T.BF.c T.LU 2);rw[B1];refine(mAW T.BF.c T.LW 3);rw[B1];exact k
def Made(t:Aw)(H:Hp)(v:Ed)(Q:VK):Prop:=∀a H',aO ->H a=none->tI H' a->oJ aI
theorem SR(k:mEh v):∀x dx,H x=none->H dx=none->dx≠x->
 AeY t (mO1 cS) (mBK H t.FS) (λu a=>u= .Ax/\Q cS a) E:=by
 intro x dx hx b c;refine(mD8 x dx v);rw[B1];exact k x _ (wR b hx) hx (dx,Af)
def AoX(t:Aw):Sp:=λvs H Q _=>vs=[]/\mEh (mCs 0)
theorem AoY:AD [] [] (A0 Aak):=aG
theorem AeZ(T:aD):A4 P w K mg base A9 3 t.Iu t.Ab6 [] (AoX t):=by
 refine qI T.Iu.F.ok AoY
 .obtain⟨rfl,_⟩:=h;rfl
 obtain⟨rfl,k⟩:=h;obtain⟨c,d,e⟩:=T.V3;refine(_,(Ao (A3 (Dc T.BF.k (KJ T) dR rfl T.BF.m T.G1.b .nil Ay (mEi Ar (uV (nT d e)))))),5);exact mGR (mCs 0)
def AoZ(t:Aw):Sp:=λvs H Q _=>∃(a b:Addr)(v u:Ed),vs=aAA /\tI H a/\Cd t H b u/\mEh aV5
theorem Ao_:AD aHd aHd (A0 Aal):=aG
theorem WW(T:aD):A4 P w K mg base A9 3 t.G3 t.Ab7 aHd (AoZ t):=by
 refine mB2 T.G3.F.ok Ao_
 .obtain⟨a,b,v,u,rfl,_⟩:=h;rfl
 obtain⟨a,b,v,u,rfl,⟨e,ha⟩,⟨db,hb⟩,k⟩:=h;refine(_,(Ao (A3 (Dc T.BF.k (KJ T) eF rfl T.BF.m T.G1.b .nil Ay (Ad Dw (Ad (AE J3 aX cJ) (mKj (mJK (mO2 qK 0 1)))))))),166,38,195,38,2,13,5);refine(166,93,T.LU,195,93,T.LU,2,3,166,93,T.LW,195,93,T.LW,2,3,5);exact mGR aV5
def Apa(t:Aw):Sp:=λvs H Q _=>∃(a:Addr)(v:Ed)(x g:Nat),vs=[aI,aEG,aIz]/\tI H a/\mEh aV6
theorem Apb:AD aHe aHe (A0 Aam):=aG
theorem Ae_(T:aD):A4 P w K mg base A9 3 t.Iv t.Ab8 aHe (Apa t):=by
 refine vL T.Iv.F.ok Apb
 .obtain⟨a,v,x,g,rfl,_⟩:=h;rfl
 obtain⟨a,v,x,g,rfl,⟨d,ha⟩,k⟩:=h;refine(_,(mD0 (mO3 (mEi (mCl aX aQ) aV7))),109,38,178,8,5);refine aV8;exact mGR aV6
def Apc(t:Aw):Sp:=λvs H Q _=>∃(a:Addr)(v:Ed)(x g:Nat),vs=[aI,aEG,aIz]/\tI H a/\mEh aV9
theorem Apd:AD aHf aHf (A0 Aan):=aG
theorem Afa(T:aD):A4 P w K mg base A9 3 t.Iw t.Ab9 aHf (Apc t):=by
 refine vL T.Iw.F.ok Apd
 .obtain⟨a,v,x,g,rfl,_⟩:=h;rfl
 obtain⟨a,v,x,g,rfl,⟨d,ha⟩,k⟩:=h;refine(_,(Ao (A3 (mO3 (mEi (AE J3 aX aQ) aV7)))),109,38,30,13,5);refine aV8;exact mGR aV9
abbrev Ft(g:Nat)(fo so:Addr)(W:Nat):List gG:=[("cost",aIz,),("followers",mF fo,),("sorts",mF so,),("words",mE (W:Int),)]
def Ape(t:Aw):Sp:=λvs H Q _=>∃(p dx fo:Addr)(g:Nat),vs=[aS,aIz,mF fo]/\H p=rM t.CH/\∀so,so≠p->H so=none->sP (nN (qM H so) (mEj g fo))
theorem Apf:AD aHm aHm (A0 Aad):=aG
theorem Apg(T:aD):A4 P w K mg base A9 1 t.MR t.Abz aHm (Ape t):=by
 refine qI T.MR.F.ok Apf
 .obtain⟨p,dx,fo,g,rfl,_⟩:=h;rfl
 obtain⟨p,dx,fo,g,rfl,hp,k⟩:=h;refine(_,(Ak aAG
  (Ak lQ
  (Ak aIA
  aEU))),5)
 refine(69,65,T.LX,52,65,T.Vm,189);rw[B1];refine(aR,λso c=>?_);have d:so≠p:=λe=>(by rw[e,Af] at c;cases c);refine(97,by rw[nQ d,Af],65,T.Vn,aAM,97,Af,65,T.Vo,(qZ 3),5);rw[B1,<-mA5 d,B1,mA5 d];exact k so d (by rwa[Ah d] at c)
def Afb(t:Aw):Sp:=λvs H Q _=>∃(p dx fo so:Addr)(g W x:Nat)(l:aK),vs=[aS,aEG]/\H p=mKk pI g/\H so=nV l/\l.length<sizeLine/\p≠so/\
 Q .Ax (nN aWa (nB t.CH (Ft g fo so (W|||x))))
theorem Aph:AD aHn aHn (A0 Aae):=aG
theorem Api(T:aD):A4 P w K mg base A9 1 t.MS t.Ab0 aHn (Afb t):=by
 refine qI T.MS.F.ok Aph
 .obtain⟨p,dx,fo,so,g,W,x,l,rfl,_⟩:=h;rfl
 obtain⟨p,dx,fo,so,g,W,x,l,rfl,hp,c,d,e,k⟩:=h;refine(_,(Ak (Cu (mEk dU))
  aE8),5)
 refine(17,hp,65,T.Vn,2,pL c,0,so,8,c,d,5);have f:(aWa) p=some (mKk nB g):=(oN e hp);exact(17,f,65,T.Vo,30,13,19,f,(qZ 4),k)
structure Kt where
 m:Nat
 w:Nat
 p:Nat
deriving DecidableEq
abbrev Dm(κ:Kt)(a:Addr)(AA:Nat)(g:V)(b c:Addr):List gG:=[("mode",aIB,),("state",aI,),("fewest",mE (AA:Int),),("groups",g,),("finishes",bW,),("lacks",mF c,)]
def Apj(t:Aw):Sp:=λvs H Q _=>∃(p dx a:Addr)(κ:Kt)(AA:Nat),vs=[aS,aIB,aI,mE (AA:Int)]/\H p=rM t.BD/\
 ∀b c,b≠p->c≠p->b≠c->H b=none->H c=none->sP (nN aWb (nB t.BD (Dm κ a AA .Ax b c)))
theorem Apk:AD aHo aHo (A0 Aaf):=aG
theorem Apl(T:aD):A4 P w K mg base A9 1 t.MT t.Ab1 aHo (Apj t):=by
 refine qI T.MT.F.ok Apk
 .obtain⟨p,dx,c,κ,AA,rfl,_⟩:=h;rfl
 obtain⟨p,dx,c,κ,AA,rfl,hp,k⟩:=h;refine(_,(Ak aAG
  (Ak lQ
  (Ak (oF bF)
  (Ak (oF Da)
  (Ak aIA
  (Ao aIC)))))),5)
 refine(69,45,T.Ac5,52,45,T.Ac6,189);rw[B1];refine(mAW T.CN.c T.RD 2);rw[B1];refine(yC T.CN.c T.Pd 3);rw[B1];refine(aR,λd f=>?_);have g:d≠p:=λe=>aUV;rw[mA5 g];refine(yC T.CN.c T.RE 4);rw[B1];refine λi j=>?_;have l:i≠p:=λe=>aN1;rw[Ah l] at j;have m:d≠i:=λe=>(by rw[<-e,Af] at j;cases j);rw[mA5 l];refine(yC T.CN.c T.NB 5);rw[B1];exact k d i g l m (by rwa[Ah g] at f) (by rwa[nQ m] at j)
def Apm(t:Aw):Sp:=λvs H Q _=>∃(p dx a b c:Addr)(κ:Kt)(AA:Nat)(g:V),vs=[aS]/\H p=mEl pI/\
 ∀b c,b≠p->c≠p->b≠c->H b=none->H c=none->sP (nN aWb (mEl nB))
theorem Apn:AD cK cK (A0 Aaj):=aG
theorem Apo(T:aD):A4 P w K mg base A9 1 t.MX t.Ab5 cK (Apm t):=by
 refine qI T.MX.F.ok Apn
 .obtain⟨p,dx,c,d,f,κ,AA,g,rfl,_⟩:=h;rfl
 obtain⟨p,dx,c,i,j,κ,AA,g,rfl,hp,k⟩:=h;refine(_,(Ak aIA
  (Ao aIC)),5)
 refine(aR,λd l=>?_);have m:d≠p:=λe=>(mN6 hp);refine(97,(wL m hp),45,T.RE,(qZ 6),5);refine λf n=>?_;have o:f≠p:=λe=>(by rw[e,Af] at n;cases n);rw[Ah o] at n;have q:d≠f:=λe=>(by rw[<-e,Af] at n;cases n);rw[mA5 o];refine(yC T.CN.c T.NB 6);rw[B1];exact k d f m o q l (by rwa[nQ q] at n)
def Afc(t:Aw):Sp:=λvs H Q _=>∃(p dx a b c x:Addr)(κ:Kt)(AA:Nat)(g:V)(v:Ed)(fs:aK)(d:hT),vs=[aS,cS]/\H p=mEl pI/\ iJ /\
 H b=nV fs/\fs.length<sizeLine/\H c=rK d/\d.length<sizeLine/\
 (v.fin=true->mFG b (fs++[cS]))/\
 (v.fin=false->∀e,H e=none->(Bc d jN=none/\sP (Aa (Aa (qM H e) c (.dK (Dy d jN aDm))) e (.Ac [cS])))\/
  ∃l ys,Bc d jN=mG l/\H l=nV ys/\ys.length<sizeLine/\sP (Aa (qM H e) l aN2))
theorem App:AD aHp aHp (A0 Aai):=aG
theorem Apq(T:aD):A4 P w K mg base A9 1 t.MW t.Ab4 aHp (Afc t):=by
 refine qI T.MW.F.ok App
 .obtain⟨p,dx,c,d,f,x,κ,AA,g,v,fs,i,rfl,_⟩:=h;rfl
 obtain⟨p,dx,c,d,f,x,κ,AA,g,v,fs,i,rfl,hp,⟨j,hx⟩,k,m,n,o,r,u⟩:=h;refine(_,(Ao (AU (D9 cJ) (mB4 (mEk dU)) (Ao (Cu (Dz (K:=K) rfl As3 AsH AsK E_ (WT (F5 b) aX cJ eU aCV) dU))))),0,x,_,j,3,hx,93,T.NA,79)
 cases y:v.fin with
 |true=>
  exact Au (17,hp,45,T.RE,2,pL k,0,d,8,k,m,r y)
 |false=>
  refine Az (110,f,2,mH (_,mH n),0,x,_,j,3,hx,38,2,aR,λz B=>?_);have C:f≠z:=λe=>(mKl n);have D:oB (qM H z) f (.dK i):=(oN C n);refine(_,mH (i,jN,mH D,29),5);rcases u y z B with⟨G,q⟩|⟨l,ys,hs,I,J,q⟩
  .refine mI (G,_,mH (i,jN,D,2,o,2),5);have L:(Aa (qM H z) f (.dK (Dy i jN aDl))) z=some aEI:=(mD9 nQ C);exact(pL L,0,z,8,L,21,q)
  have M:l≠z:=λe=>(mKl I);have N:sL (qM H z) l ys:=(oN M I);exact mH (_,hs,pL N,0,l,8,N,J,q)
def Apr(t:Aw):Sp:=λvs H Q _=>∃(p dx a b c:Addr)(κ:Kt)(AA:Nat)(g:V)(fs:aP)(rest room:Int)(used:Nat),vs=aWc /\H p=mEl pI/\
 H b=pF fs.map/\(∀x∈fs,∃v,iJ)/\sP H/\∀x v,x∈fs-> iJ ->v.W&&&used=0->v.r<=rest->v.c<=room->Q cS H
theorem Afd:AD ["self","rest","used","room","note"] aCN (A0 Aag):=aG
theorem Aps(T:aD):A4 P w K mg base A9 1 t.MU t.Ab2 aCN (Apr t):=by
 refine qI T.MU.F.ok Afd
 .obtain⟨p,dx,c,d,f,κ,AA,g,fs,rest,room,used,rfl,_⟩:=h;rfl
 obtain⟨p,dx,c,d,f,κ,AA,g,fs,rest,room,used,rfl,hp,j,k,l,m⟩:=h;refine(_,(Ak (rJ (Zx rfl T.AcN (mT aX)) (oC 4 Afd.nd) (Ao (nG (PW.pt (Gq (xT (uW hM aW)) (Gq (pB DB hM aQ) (Jk (pB DB hM bF))))) (oL bI))))
  (oL Da)),5)
 refine(17,hp,45,T.RE,2,d,0,mN j,5);refine Fn (J:=L2.Rr K d aE9.length) fs.length (λi σ H1=>∃v4,H1=H/\σ=[bP,mW rest,tJ mW,aAQ,v4]) aG3
  (λi σ H1 n (_,e,_)=>(mO4 n j aE9.length)) (λσ H1 _=>by show aE9.length<=fs.length;rw[ArX];exact aF) ?_ ?_
 .rintro i σ H1 y o n ⟨v4,rfl,rfl⟩ ⟨rfl,hy⟩;have q:=xQ mN j;rw[ArY] at q;obtain⟨x,hx,rfl⟩:mKm fs[aE9.length - 1 - i]?:=by
   cases e:fs[aE9.length - 1 - i]? with
   |none=>rw[e] at q;cases q
   |some x=>rw[e] at q;exact(uA x q)
  have hxm:=aFa;obtain⟨v,r,u⟩:=k x hxm;refine(0,x,_,r,3,u,38,30,13,79);rw[show decide (mO5 v.W=iG)=decide (v.W&&&used=0) from Fp _ 0];by_cases c1:v.W&&&used=0
  .rw[mU c1];refine mO6 x T.LU;by_cases z:v.r<=rest
   .rw[mU z];refine mO6 x T.LW;by_cases B:v.c<=room
    .rw[mU B];exact Au (0,m x v hxm (r,u) c1 z B)
    rw[mS B];exact Az aA8
   rw[mS z];exact xS aA8
  rw[mS c1];exact xS aA8
 rintro σ H1 ⟨v4,rfl,rfl⟩;exact l
theorem Apt{R:vE It}{x:V}(C:It->Nat->Prop)(b:aWd)
 (hc:aWe):
 (∃a,x= aI /\ aKA /\mAs Cf)\/ aVX \/∃d o c,x= dC /\H1 d=sW o (.dK c)/\R (Lv d o c) H1:=by
 grind
theorem Apu(hx:σ[i]? =mB aY)(C:It->Nat->Prop)(b:aWd)
 (hc:aWe):SM K (Bo i) σ H1 R:=
 (x,hx,Apt C b hc)
def Apv(t:Aw)(H:Hp)(a:hT):Prop:=∀q∈a,∃(W:Nat)(l:Addr)(ns:aP),q=(aB4,eR,)/\H l=pF ns.map/\∀x∈ns,∃v,iJ
def Apw(t:Aw):Sp:=λvs H Q _=>∃(p dx a b c:Addr)(κ:Kt)(AA:Nat)(g:V)(d:hT)(rest room:Int)(used:Nat),vs=aWc /\H p=mEl pI/\
 H c=rK d/\Apv t H d/\used<2 ^ 1000/\(∀e,SO used e->e.length<=14)/\∀H',aO -> cU /\∀(W:Nat)(l:Addr)(ns:aP)(x:Addr)(v:Ed),((aB4,eR,):C3×V)∈d->H l=pF ns.map->x∈ns-> iJ ->W&&&used=W->rest<=v.r->room<=v.c->sQ x
theorem SS:AD ["self","rest","used","room","sought","words","note"] aCN (A0 Aah):=aG
theorem Apx(T:aD):A4 P w K mg base A9 4 t.MV t.Ab3 aCN (Apw t):=by
 refine oW T.MV.F.ok SS
 .obtain⟨p,dx,ac,ae,b,κ,AA,g,d,rest,room,used,rfl,_⟩:=h;rfl
 obtain⟨p,dx,ac,ae,b,κ,AA,g,d,rest,room,used,rfl,hp,f,af,ag,ah,k⟩:=h;obtain⟨ai,aj,ak⟩:=T.Akm;refine(_,(Ak (qE SS.nd (Ie (pB Li (wJ Ao4 aX) (nT aj ak)) (Bb (AoV T) bR rfl T.LJ.m T.LJ.F.kp T.LJ.b .nil Ay kH) aX))
  (Ak (Rp (rJ (mB7 AeW bI) (oC 5 SS.nd) (Ao (nG (uS (uW bQ aW) bQ) (Ao (rJ (AeW (K:=K) rfl (Zu aBQ aX bQ (CV Ai) aCV)) (oC 6 SS.nd) (Ao (nG (PW.pt (Gq (pB DB aQ aDf) (Jk (pB DB bF aDf)))) (oL cC)))))))))
  (oL Da))),5)
 have main:∀(m:Hp)(sv:Addr)(o v6:bO),Ab H m->(sv=b\/∃l:aB,m sv=nW l/\sv≠b)->
  EL (Zw (M7 (SM K (Bo 4)) (EY 5) (Ii (Kd (CU QM (CU aNl aC6 (Bo 2)) aC6)) (M7 (SM K (Zt (mD2 0 "lacks") aC6 (QS E5))) (EY 6) (Ii (Ym (mO7 1 "rest") (mO7 3 "room")) (J_ (Bo 6)) Ih)) Ih))) (J_ aGj) {nx:=λ_ H'=>cU,rt:=Q}
   [bP,mW rest,tJ mW,aAQ,mG sv,o,v6] m:=by
  intro m sv o v6 s0 al;refine(b,.dK d,mC s0 f,167);have back:∀H1:Hp,(∀c u,c≠b->H c=aM ->H1 c=aM)->Ab H (Aa H1 b (.dK d)):=λH1 e c u hc=>by
   by_cases r:c=b
   .subst r;rw[Af,<-f];exact hc
   rw[Ah r];exact e c u r hc
  refine Apu rfl (λJ n=>(∀i(H1:Hp),i<n-> aFb ->J.go i H1)/\(∀H1:Hp,aFb ->J.stop n H1)/\
   ∀i(H1:Hp)x z,i<n-> aFb ->J.Fg i H1 x z->z=H1/\∃W:Nat,x= mE (W:Int)) (λJ n am=>?_) ?_
  .obtain⟨c1,B,C⟩:=am;refine Fn (J:=J) n (λi σ H1=>∃o v6,σ=[bP,mW rest,tJ mW,aAQ,mG sv,o,v6]/\ aFb)
    (o,v6,2,λc u hc e=>by rw[gW];exact e,Af) (λi σ H1 G (_,_,_,e)=>c1 i H1 G e) (λσ H1 (_,_,_,e)=>B H1 e) ?_ ?_
   .rintro i σ H1 x z G ⟨o,v6,rfl,I,L⟩ hy;obtain⟨rfl,W,rfl⟩:=C i H1 x z G (I,L) hy;refine(16,13,0,79);rw[show decide (mO5 W=mQ ((W:Nat):Int))=decide (W&&&used=W) from Fp _ _];by_cases an:W&&&used=W
    .rw[mU an];refine Au (17,(λc u hc q=>mKn I) _ _ (λe=>by rw[e,f] at hp;cases hp) hp,45,T.NB,2,b,2,mH (_,xC od L),0,aR,λT0 ao=>?_);have M:oB (aID) b (mGS d):=(by rw[nQ (λe=>by rw[e,L] at ao;cases ao)];exact L);have ap:mO8 b m:=λc u hc q=>by
      have:=I c u hc q;rw[Ah (AR this ao)];exact this
     have N:mO8 b H:=λc u hc q=>mKn ap;refine(_,mH (d,aB4,xC od M,29),5)
     cases O:Bc d aB4 with
     |none=>
      refine .inr (.inl (T0,2,(_,nO Af),Fn (J:=GU K T0) 0 (λi σ H1=>i=0/\σ=aWf /\H1=aID) aSx (λi σ H1 G _=>by omega) (λσ H1 (_,_,e)=>([],by rw[e];exact nO Af,aF)) (λi σ H1 y aq G=>by omega) ?_));rintro σ H1 ⟨_,rfl,rfl⟩;exact aWg
     |some lv=>
      have hmem:((aB4,lv,):C3×V)∈d:=by
       unfold Bc at O
       cases hf:d.find? (λar=>decide (ar.1= aB4)) with
       |none=>rw[hf] at O;cases O
       |some q=>
        rw[hf] at O;have as:=List.find?_some hf;simp at as;obtain rfl:q.2=lv:=(mR O);rw[<-as];exact(Awf hf)
      obtain⟨au,l,ns,hq,U,av⟩:=af _ hmem;injection hq with aw ax
      subst ax;have ay:l≠b:=λe=>(mJP e f);refine .inl (l,2,(oM (mV N ay U)),E4 (K:=K) (a:=l) (xs:=nF ns.map) (λi σ H1=>∃v6,σ=aWf /\H1=aID) aA8 (λi σ H1 _ (_,_,e)=>by rw[e];exact mN (mV N ay U)) ?_ ?_)
      .rintro i y σ H1 G ⟨v6,rfl,rfl⟩;rw[ArY] at G;obtain⟨x,hx,rfl⟩:mKm ns[i]?:=by
        cases e:ns[i]? with
        |none=>rw[e] at G;cases G
        |some x=>rw[e] at G;exact(uA x G)
       have hxm:=aFa;obtain⟨v,az,Y⟩:=av x hxm;have a0:=N _ _ (λe=>by rw[e,f] at Y;cases Y) Y;refine(mO9 x T.LU);by_cases B:rest<=v.r
       .rw[mU B];refine Au (mO9 x T.LW);by_cases C:room<=v.c
        .rw[mU C];exact Au (0,M,(k _ (back _ N)).2 W l ns x v hmem U hxm (az,Y) an B C)
        rw[mS C];exact Az aA8
       rw[mS B];exact xS aA8
      rintro σ H1 ⟨v6,rfl,rfl⟩;exact aWg
    rw[mS an];exact Az (3,I,L)
   rintro σ H1 ⟨o,v6,rfl,I,L⟩;exact(L,(k _ (back H1 λc u hc q=>mKn I)).1)
  rcases al with rfl|⟨l,U,a1⟩
  .refine mI (mI (_,od,d,190,d.length,λi H1 G e=>(e.2,G),λH1 e=>(e.2,aF),5));rintro i H1 x z G e ⟨rfl,a2,v,a3,rfl⟩;obtain⟨W,l,ns,hq,_⟩:=af _ (Asl a3);injection hq with aw ax
   exact(2,W,by rw[aw];rfl)
  have a4:∀H1:Hp,aFb ->H1 sv=some (pT l):=λH1 e=>mV e.1 a1 U;refine .inl (sv,2,(_,Ae.of (show(Aa m b (mGS d)) sv=some (pT l) by rw[Ah a1];exact U)),l.length,λi H1 G e=>(19,mN (a4 H1 e),by rw[ArY,mJ G];rfl),λH1 e=>(_,mN (a4 H1 e),168),5);rintro i H1 x z G e ⟨rfl,hy⟩;have a5:=xQ mN (a4 _ e);rw[ArY,mJ G] at a5;exact(mO rfl l[i] (Ase a5).symm)
 refine(110,b,d,2,mH f,55);by_cases c0:(2000:Int)<(d.length:Int)
 .rw[mU c0];refine Au (0,used,2,ag,ah,λl D m s0 a6 U=>main m D none none s0 (mI (l,U,λe=>by rw[e,f] at a6;cases a6)))
 rw[mS c0];exact Az (110,main H b none none aGi aZ)
structure FE where
 T:BR
 S:List Cr
 Aq:Nat
 tw:Nat->Nat
def IR(E:FE):List Wd:=E.S.map Cr.wd
def vw(E:FE)(r m w:Nat):Nat:=GB E.T (IR E) r m w
def D6(E:FE)(κ:Kt)(q:aB):Prop:=aN3 /\KD E.T κ.m κ.w κ.p aDn /\q.length<=E.Aq
def Og(E:FE)(κ:Kt)(v:Ed):Prop:=v.fin=false/\∃l,Dl E.S v.W l/\Lk E.S (D6 E κ) l v.r v.c
def WX(E:FE)(κ:Kt)(AA:Nat):Prop:=(∀q,D6 E κ q->AA<=q.length)/\(AA=0->D6 E κ [])
structure Kb(κ:Kt):Prop where
 m:κ.m<=1
 w:κ.w<=4
 p:κ.p<1000
abbrev Bj:=Addr-> aWh
structure Ev(B:aC1)(o:Bj)(H:Hp)(o':Bj)(H':Hp):Prop where
 keep:∀c u,H c=aM ->(∀x,o c=aY ->¬B x.1)-> eJ=some u
 own:∀c u,H c=aM ->o' c=o c
 there:∀c u,H c=aM ->∃u',eJ=mB u'
theorem Ev.refl:Ev B o H o H:=(λ_ _ e _=>e,aDo,λ_ u e=>(u,e))
theorem Ev.trans(a:Ev B o H g H1)(b:Ev B g H1 i j):Ev B o H i j where
 keep:=λc u e n=>b.keep c u (uX a.keep n) λx hx=>n x (by rw[<- aN4];exact hx)
 own:=λc u e=>let(u',e'):=sC a.there;(b.own c u' e').trans aN4
 there:=λc u e=>let(u',e'):=sC a.there;b.there c u' e'
theorem Ev.As(a:iK)(h:∀x,B x->g x):Ev g o H o' H':=(λc u e n=>a.keep c u e λx hx hb=>n x hx (h _ hb),a.own,a.there)
theorem Ev.same(s:aO):Ev B o H o H':=(λc u e _=>sC s,aDo,λc u e=>(u,sC s))
theorem Ev.free(a:iK)(e:H c=aM)(h:nA o c):aWi:=
 (mPa (λx hx=>by rw[h] at hx;cases hx))
theorem Ev.J7(a:iK)(e:H c=aM)(h:o c=mB (b,x,))(hb:¬B b):eJ=aM /\o' c=some (b,x,):=
 (mPa (λy hy=>by rw[h] at hy;cases hy;exact hb))
theorem Cd.ev(h:tI H a)(e:iK)(g:nA o a):tI H' a/\o' a=none:=by obtain⟨dx,h⟩:=h;exact((dx,(uG h g).1),(uG h g).2)
def PL(t:Aw)(H:Hp)(o:Bj)(n:Nat)(a:Addr):Prop:=∃fs:aP,H a=pF fs.map/\fs.length<=n/\∀x∈fs,∃v,iJ /\o x=none/\v.fin=true
def Apy(t:Aw)(H:Hp)(o:Bj)(E:FE)(κ:Kt)(n W:Nat)(l:Addr):Prop:=∃ns:aP,H l=pF ns.map/\ns.length<=n/\∀x∈ns,∃v,iJ /\o x=none/\v.W=W/\Og E κ v
def PM(t:Aw)(H:Hp)(o:Bj)(E:FE)(κ:Kt)(a:Addr)(n:Nat)(b:Addr):Prop:=∃c:hT,H b=rK c/\c.length<=n/\∀q∈c,∃(W:Nat)(l:Addr),q=(aB4,eR,)/\o l=mB (a,mB W,)/\Apy t H o E κ n W l
abbrev Oh:=Kt->Addr->Prop
structure J8 where
 Bl:Nat
 fl:List aDp
 ss:aB
def PN(t:Aw)(H:Hp)(o:Bj)(E:FE)(R:Oh)(x:Addr)(G:J8):Prop:=∃(dx fo so:Addr)(W:Nat)(ms:aB),H x=mKk pI G.Bl/\o x=none/\H fo=nV (G.fl.map λp=>nC p.2)/\o fo=none/\(∀p∈G.fl,R p.1 p.2)/\
 H so=nW ms/\o so=none/\ms.length=G.ss.length/\(∀(j i M:Nat),G.ss[j]? =mB i->ms[j]? =mB M->KG E.S i M)/\W<2 ^ 500
def GOk(E:FE)(κ:Kt)(G:J8):Prop:=(∀i∈G.ss,i<E.S.length/\(AH E.S i).Bl=G.Bl)/\∀i∈G.ss,∀q,mGT E->∃p∈G.fl,D6 E p.1 q
def KK(t:Aw)(H:Hp)(o:Bj)(E:FE)(R:Oh)(κ:Kt)(ga:Addr):Prop:=∃(xs:aP)(a:mY J8),H ga=pF xs.map/\o ga=none/\xs.length=a.length/\(∀(j:Nat)(x:Addr)(G:J8),xs[j]? =aY ->a[j]? =mB G-> aWj /\GOk E κ G)/\∀i q,mGT E->∃G∈a,i∈G.ss
structure J9(t:Aw)(H:Hp)(o:Bj)(E:FE)(R:Oh)(n:Nat)(κ:Kt)(a dx sta AA:Nat)(g:V)(fa la:Addr):Prop where
 at_:H a=some (nB t.BD (Dm κ sta AA g fa la))
 oa:o a=some (a,none,)
 IS:o fa=some (a,none,)
 IT:o la=some (a,none,)
 st:H sta=some (.Al aWk)
 He:o sta=none
 kb:Kb κ
 AA:WX E κ AA
 fin:PL t H o n fa
 HM:PM t H o E κ a n la
 Oi:g= .Ax\/∃ga,g= mF ga/\mKo E R
def Kn(t:Aw)(H:Hp)(o:Bj)(E:FE)(R:Oh)(n:Nat)(κ:Kt)(a:Addr):Prop:=∃dx b AA g c d,J9 t H o E R n κ a dx b AA g c d
section
variable {B:aC1} {o o':Bj} {H H':Hp} {E:FE} {R R':Oh} {n n':Nat} {κ:Kt}
theorem PL.ev(h:PL t H o n g)(e:iK)(hf:o g=sR a)(hb:¬B a)(i:n<=n'):PL t H' o' n' g:=by obtain⟨fs,j,q,s⟩:=h;refine(fs,(zU j hf).1,4,dY);obtain⟨v,a1,a2,u⟩:=oY s;exact(mPb u)
theorem PM.ev(h:PM t H o E κ a n g)(e:iK)(i:o g=sR a)(hb:¬B a)(j:n<=n'):PM t H' o' E κ a n' g:=by obtain⟨s,u,y,z⟩:=h;refine(s,(zU u i).1,4,eH);obtain⟨W,l,rfl,C,ns,g1,g2,g3⟩:=rD z;refine(W,l,2,(zU g1 C).2,ns,(zU g1 C).1,4,dY);obtain⟨v,a1,a2,I⟩:=oY g3;exact(mPb I)
theorem PN.ev(h:aWj)(e:iK)(g:aIE):PN t H' o' E R' x G:=by obtain⟨dx,fo,so,W,ms,i,j,q,h4,s,h6,u,v⟩:=h;exact(dx,fo,so,W,ms,(uG i j).1,(uG i j).2,(uG q h4).1,(uG q h4).2,λp hp=>mC g (rC s),(uG h6 u).1,(uG h6 u).2,v)
theorem KK.ev(h:mKo E R)(e:iK)(g:aIE):KK t H' o' E R' κ ga:=by obtain⟨xs,i,q,s,u,h4,v⟩:=h;exact(xs,i,(uG q s).1,(uG q s).2,u,λj x G hx y=>((h4 j x G hx y).1.ev e g,(h4 j x G hx y).2),v)
theorem J9.ev{a dx i AA:Nat}(h:J9 t H o E R n κ a dx i AA g j q)(e:iK)(hb:¬B a)(s:aIE)(u:n<=n'):J9 t H' o' E R' n' κ a dx i AA g j q where
 at_:=(zU h.at_ h.oa).1
 oa:=(zU h.at_ h.oa).2
 IS:=let(_,v,_):=h.fin;(zU v h.IS).2
 IT:=let(_,v,_):=h.HM;(zU v h.IT).2
 st:=(uG h.st h.He).1
 He:=(uG h.st h.He).2
 kb:=h.kb
 AA:=h.AA
 fin:=h.fin.ev e h.IS hb u
 HM:=h.HM.ev e h.IT hb u
 Oi:=by
  rcases h.Oi with g|⟨ga,g1,g2⟩
  .exact mH g
  exact mI (ga,g1,g2.ev e s)
theorem Kn.ev(h:Kn t H o E R n κ a)(e:iK)(hb:¬B a)(i:aIE)(j:n<=n'):Kn t H' o' E R' n' κ a:=
 let(dx,q,AA,g,s,u,k):=h;(dx,q,AA,g,s,u,k.ev e hb i j)
end
structure Fw where
 E:FE
 F:Addr
 dF:Addr
 P:Addr
 SA:Addr
 VA:Addr
 D:Addr
 Hs:Hp
abbrev BI(X:Fw)(n:Nat):List gG:=[("places",mF X.P,),("sorts",mF X.SA,),("views",mF X.VA,),("knots",mF X.D,),("kept",lP,)]
def Ds(κ:Kt):Ky:= .Al [.num (κ.m:Int),mGe (κ.w:Int) ((1<<<κ.p:Nat):Int)]
def Rg(b:bH):Oh:=λκ a=>(eW,nC a,)∈b
structure AO(t:Aw)(X:Fw)(H:Hp)(o:Bj)(n:Nat)(kvs:bH):Prop where
 f:H X.F=some (mCt n)
 of:o X.F=some (X.F,none,)
 d:H X.D=some aEv
 od:o X.D=some (X.F,none,)
 nn:n<=300000
 nd:(yO kvs.map).Nodup
 st:Ab X.Hs H
 so:∀c u,X.Hs c=aM ->o c=none
 un:∀c,H c=none->o c=none
 kn:∀q∈kvs,∃κ a,q=(eW,aI,)/\a≠X.F/\Kn t H o X.E (Rg kvs) n κ a
def Bg(F:Addr)(H:Hp)(a:bH):aC1:=λb=>b=F\/(∃κ,Rg a κ b)\/H b=none
structure Gw(F:Addr)(o:Bj)(H:Hp)(kvs:bH)(o':Bj)(H':Hp)(kvs':bH):Prop where
 ev:Ev (Bg F H kvs) o H o' H'
 rg:∀κ a,aDq ->Rg kvs' κ a
 fr:∀κ a,tK kvs'-> aDq \/H a=none
theorem Gw.refl:Gw F o H g o H g:=(Ev.refl,130)
theorem Gw.trans(a:Gw F o H k g H1 i)(b:Gw F g H1 i j s v):Gw F o H k j s v where
 ev:=by
  refine(λc u e n=>b.ev.keep c u (uX a.ev.keep n) λx hx hb=>n x (by rw[<-sC a.ev.own];exact hx) ?_,λc u e=>let(u',e'):=sC a.ev.there;(b.ev.own c u' e').trans (sC a.ev.own),λc u e=>let(u',e'):=sC a.ev.there;b.ev.there c u' e');rcases hb with hb|⟨κ,hb⟩|hb
  .exact mH hb
  .rcases a.fr κ _ hb with q|q
   .exact mI (xB κ q)
   exact oA mI q
  refine mI aIF
  cases q:H x.1 with
  |none=>rfl
  |some u'=>obtain⟨y,z⟩:=mC a.ev.there q;rw[hb] at z;cases z
 rg:=λκ x h=>b.rg κ x (a.rg κ x h)
 fr:=λκ x h=>by
  rcases b.fr κ x h with q|q
  .exact a.fr κ x q
  refine aIF
  cases C:H x with
  |none=>rfl
  |some u'=>obtain⟨y,z⟩:=mC a.ev.there C;rw[q] at z;cases z
theorem Gw.same(s:aO):Gw F o H k o H' k:=(Ev.same s,130)
theorem AO.same(h:pU g)(s:aO):zV H' o g where
 f:=s _ _ h.f
 of:=h.of
 d:=s _ _ h.d
 od:=h.od
 nn:=h.nn
 nd:=h.nd
 st:=Ab.trans h.st s
 so:=h.so
 un:=λc e=>h.un c (BL s e)
 kn:=λq hq=>let(κ,a,e,ne,k):=aAR;(κ,a,e,ne,mKp k.ev (Ev.same s))
theorem Afe(h:eW=Ds a):κ=a:=by
 obtain⟨m,w,p⟩:=κ;obtain⟨b,c,d⟩:=a;injection h with h
 injection h with e h
 injection e with e
 injection h with f _
 injection f with f
 injection f with g h4
 injection g with g
 injection h4 with h4 _
 injection h4 with h4
 have i:=AtA e;have j:=AtA g;have k:p=d:=by have:=(Eb p p).mpr rfl;rw[(AtA h4),Eb] at this;exact this
 subst i j k;rfl
theorem Kn.FA(h:pU g)(r:tK g):a≠X.F/\Kn t H o X.E (Rg g) n κ a:=by
 obtain⟨i,j,e,ne,k⟩:=h.kn _ r;injection e with q s
 injection s with s
 subst s;rw[<-Afe q] at k;exact(ne,k)
theorem AO.Dt(h:pU g)(e:iK):Ab X.Hs H':=λc u q=>(uG (h.st c u q) (h.so c u q)).1
def Ci(o:Bj)(c:Addr)(x:aWh):Bj:=λb=>if b=c then x else o b
theorem IU:Ci o c x c=x:=bE
theorem Cj(h:b≠c):Ci o c x b=o b:=gM
structure C6(t:Aw)(X:Fw)(H:Hp)(o:Bj)(kvs:bH)(c:Addr):Prop where
 o:o c=some (c,none,)
 f:c≠X.F
 k:∀κ,¬Rg kvs κ c
 al:H c≠none
theorem C6.bg{o:Bj}(m:zW g):¬Bg X.F H g c:=by
 rintro(h|⟨κ,h⟩|h)
 .exact m.f h
 .exact m.k κ h
 exact m.al h
theorem C6.gw{o o':Bj}(m:zW i)(g:zX i j)(e:H c=aM):eJ=aM /\C6 t X H' o' j c:=by obtain⟨q,s⟩:=g.ev.J7 e m.o m.bg;exact(q,s,m.f,λκ h=>(g.fr κ c h).elim (m.k κ) (λz=>m.al z),by rw[q];simp)
theorem C6.same{o:Bj}(m:zW g)(s:aO):C6 t X H' o g c:=(m.o,m.f,m.k,by obtain⟨u,hu⟩:=AvZ.mp m.al;rw[nH hu];simp)
theorem C6.Aa{o:Bj}(m:zW g):C6 t X (mEm b) o g c:=(m.o,m.f,m.k,by
 by_cases e:c=b
 .subst e;rw[Af];simp
 rw[Ah e];exact m.al)
theorem AO.claim(h:pU i)(hc:pP c):mPc aB5 i:=by
 have BM:aWl:=λb v e=>mCu hc;have j:Ab H aB5:=mP hc;have ev:∀B,Ev B o H aFc aB5:=λB=>(mPd j);refine(mPe j Af)
 .have s:b≠c:=λz=>aIG;rw[Cj s];exact mPf s
 .obtain⟨κ,a,e,ne,k⟩:=aAR;exact aWm
 obtain⟨_,dx,y,AA,g,C,I,k⟩:=aFd;have:=k.at_;rw[hc] at this;cases this
theorem AO.CA(h:pU g)(m:zW g)(u:HO):AO t X aB5 o n g:=by
 have ev:Ev (λb=>b=c) o H o aB5:=(λb v e nb=>by
  have:b≠c:=λz=>(by subst z;exact nb _ m.o rfl);rw[aDr];exact e,aDo,λb v e=>by
  by_cases z:b=c
  .subst z;exact(u,Af)
  exact(mKq v z e))
 refine(by rw[nQ m.f];exact h.f,h.of,by rw[Ah (λz=>by have:=h.od;rw[z,m.o] at this;injection this with this;injection this with this;exact m.f this)];exact h.d,h.od,h.nn,h.nd,λb v e=>?_,h.so,149)
 .have:b≠c:=λz=>(by have:=h.so b v e;rw[z,m.o] at this;cases this);rw[aDr];exact h.st b v e
 .have i:b≠c:=λz=>aIG;exact mPf i
 obtain⟨κ,a,rfl,ne,k⟩:=aAR;exact(179,ne,k.ev ev (λz=>aWn) jO aF)
theorem AO.letGo(h:pU i)(m:zW i):AO t X H (Ci o c none) n i:=by
 have ne1:∀b x,o b=aY ->x.1≠c->b≠c:=λb x e hx z=>by subst z;rw[m.o] at e;injection e with e;subst e;exact hx rfl
 refine(h.f,by rw[Cj (Asr m.f)];exact h.of,h.d,5,h.nn,h.nd,h.st,λb v e=>?_,149)
 .have s:X.D≠c:=λz=>by have:=h.od;rw[z,m.o] at this;injection this with this;injection this with this;exact m.f this
  rw[Cj s];exact h.od
 .by_cases z:b=c
  .subst z;exact IU
  rw[Cj z];exact h.so b v e
 .by_cases z:b=c
  .subst z;exact IU
  rw[Cj z];exact h.un b e
 obtain⟨κ,a,rfl,ne,dx,u,AA,g,y,C,k⟩:=aAR;have ac:a≠c:=λz=>aWn;have fr:∀b,o b=none->Ci o c none b=none:=λb e=>by
  by_cases z:b=c
  .subst z;exact IU
  rw[Cj z];exact e
 have I:∀b x,o b=mB (a,x,)->Ci o c none b=some (a,x,):=λb x e=>(by rw[Cj (ne1 b _ e ac)];exact e);obtain⟨fs,f1,f2,J⟩:=k.fin;obtain⟨ls,L,M,O⟩:=k.HM;refine(179,ne,dx,u,AA,g,y,C,k.at_,mC I k.oa,mC I k.IS,mC I k.IT,k.st,fr _ k.He,k.kb,k.AA,(fs,f1,f2,λx hx=>let(v,a1,a2,Q):=oY J;(v,a1,fr _ a2,Q)),(ls,L,M,hE),5)
 .obtain⟨W,l,e,ol,ns,n1,n2,n3⟩:=rC O;exact(W,l,e,mC I ol,ns,n1,n2,λx hx=>let(v,a1,a2,Q):=oY n3;(v,a1,fr _ a2,Q))
 rcases k.Oi with z|⟨ga,U,xs,Y,aa,ab,ae,af,ag⟩
 .exact mH z
 refine mI (ga,U,xs,Y,aa,fr _ ab,ae,λj x G hx ah=>?_,ag);obtain⟨⟨ai,fo,so,W,ms,g1,g2,g3,aj,ak,am,an,ao⟩,ap⟩:=af j x G hx ah;exact((ai,fo,so,W,ms,g1,fr _ g2,g3,fr _ aj,ak,am,fr _ an,ao),ap)
theorem Oj[mDw α]:∀{l m:cL},l.Nodup->(∀x∈l,x∈m)->l.length<=m.length
 |[],m,_,_=>aR
 |x::l,m,hd,hs=>by
  rw[AtY] at hd;have a:=Oj (l:=l) (m:=m.erase x) hd.2 λy hy=>by grind
  grind
theorem AO.len(h:pU i):i.length<=10000:=by
 have key:∀l:bH,aA9.Nodup->(∀q∈l,∃κ,q.1=eW /\Kb κ)->l.length<=10000:=by
  intro l hd hk;obtain⟨j,s,u⟩:∃j:mY Kt,aA9=j.map Ds/\∀κ∈j,Kb κ:=by
   clear hd
   induction l with
   |nil=>exact([],2,9)
   |cons q l v=>
    obtain⟨j,s,u⟩:=v λx hx=>pH hk x hx;obtain⟨κ,e,b⟩:=hk q aC;refine(κ::j,by rw[Asn,Asn,s,e],dY);grind
  rw[s] at hd;have hd2:j.Nodup:=by rw[List.Nodup,Avh] at hd;exact hd.imp λ{a b}y e=>y (by rw[e])
  have:=Oj (l:=j.map λκ=>κ.m+2*(κ.w+5*κ.p)) (m:=oP 10000) (by
   rw[List.Nodup,Avh];refine List.Pairwise.imp_of_mem ?_ hd2;intro a b ha hb y e;have b1:=u a ha;have z:=nJ u;have:=b1.m;have:=b1.w;have:=z.m;have:=z.w;apply y;obtain⟨am,C,ap⟩:=a;obtain⟨bm,I,J⟩:=b;simp only at*;have L:am=bm:=aA;have M:C=I:=aA;have e3:ap=J:=aA;subst L M e3;rfl) (λx hx=>by
   obtain⟨κ,O,rfl⟩:=aAc;have b1:=u κ O;have:=b1.m;have:=b1.w;have:=b1.p;rw[Atj];omega)
  rw[ArX,As4] at this;have e:=yJ s;grind
 refine key i h.nd λq hq=>?_;obtain⟨κ,a,e,_,dx,Q,AA,g,U,Y,k⟩:=aAR;exact(κ,by rw[e],k.kb)
abbrev Ap0(wd:Wd)(sh:Addr)(Bl M:Nat):List gG:=[("vowel_first",aHT,),("shapes",mF sh,),("cost",mE (Bl:Int),),("words",aIH,)]
def HN(t:Aw)(H:Hp)(q:Addr)(S:iI)(i:Nat):Prop:=∃(dx sh a b:Addr)(M:Nat),H q=mB (nB t.CM (Ap0 cE.wd sh cE.Bl M))/\H sh=oI aAA /\wK a cE.wd.DF/\wK b cE.wd.CO/\ aE0
def Be(f:bD)(n:Nat):List Nat:=aA3.map f
def KM(H:Hp)(v:Addr)(f:kN):Prop:=∃a b,H v=oI aAA /\H a=tL (f 0)/\H b=tL (f 1)
structure DT(t:Aw)(X:Fw):Prop where
 Aq:X.E.Aq<=12
 pl:G8 t X.Hs X.P X.E.T
 twd:∃dx fs twA kv,X.Hs X.P=aNm /\nY ("twins":Str)=mG twA/\X.Hs twA=rK kv/\∀p,aFe=true->Bc kv aII=some (mE ((1<<<X.E.tw p:Nat):Int))
 AT:∀p,aFe=true-> aAS<1000/\∀l,C8 X.E.T l p↔C8 X.E.T l aAS
 Ap2:∃qs:aP,X.Hs X.SA=pF qs.map/\qs.length=X.E.S.length/\∀(i:Nat)(q:Addr),qs[i]? =dA ->HN t X.Hs q X.E.S i
 Hf:∃vs:aP,X.Hs X.VA=pF vs.map/\vs.length=X.E.Aq+1/\∀(r:Nat)(v:Addr),vs[r]? =bJ ->KM X.Hs v (vw X.E r)
 BQ:∀i,i<X.E.S.length->DR lV.wd
 Ol:Bu X.E.S X.E.S.length<=64
 sl:X.E.S.length<=64
 wl:∀i m,i<X.E.S.length->(lV.wd.sh m).A2.length<=1000
 KN:∀r m w p,m<=1->w<=4->(vw X.E r m w).testBit p=true-> aFe=true
theorem DT.Mp(ok:eK)(h:nI aWo.testBit p):p<1000:=by
 rcases Atq p 1000 with q|q
 .exact q
 rw[mKh (ok.pl.b.B2 2) q] at h;cases h
def Fu(E:FE)(pl:Nat):Nat:=(oP 1000).foldl aWp 0
theorem PP(E:FE)(pl x:Nat):(Fu E pl).testBit x=true↔∃p,p<1000/\mEn p=true/\x=E.tw p:=by
 have:∀(n r:Nat),(aA3.foldl aWp r).testBit x=true↔yK x=true\/∃p,p<n/\mEn p=true/\x=E.tw p:=by
  intro n
  induction n with
  |zero=>intro r;simp
  |succ n a=>
   intro r;rw[Atl,At4,Ati,List.foldl_nil];by_cases h:mEn n=true
   .rw[fZ,Ate,Atx,a,Eb];grind
   grind
 unfold Fu;rw[this];simp
def Om(t:Aw)(X:Fw)(H:Hp):Prop:=∃n:Nat,H X.F=mB (mCt n)/\Ab X.Hs H
theorem AO.ff(h:pU g):Om t X H:=(mO n h.f h.st)
theorem Om.same(h:Om t X H)(s:aO):Om t X H':=let(n,a,b):=h;(n,nH a,mX b s)
def Ap3(t:Aw):Sp:=λvs H Q _=>∃(X:Fw)(pl:Nat),vs=[kP,mAZ mE]/\ eK /\Om t X H/\(∀p,mEn p=true-> aFe=true)/\∀H',aO ->oJ (mE ((Fu X.E pl:Nat):Int))
theorem SU:AD ["self","places","firsts","place"] aBD (A0 Aar):=aG
theorem Ap4(T:aD):A4 P w K mg base A9 3 t.MZ t.AbD aBD (Ap3 t):=by
 refine mB2 T.MZ.F.ok SU
 .obtain⟨X,pl,rfl,_⟩:=h;rfl
 obtain⟨X,pl,rfl,ok,⟨n,hF,f⟩,g,k⟩:=h;obtain⟨dx,fs,l,m,o,u,v,z⟩:=ok.twd;have B:mCv pl:=by
  apply Atn;intro i C
  cases hb:mEn i with
  |false=>rfl
  |true=>have:=ok.Mp (g i hb);omega
 refine(_,(Ak (pY SU.nd Ar)
  (Ak (rJ (qC (mOZ dU)) (oC 3 SU.nd) (Ao (mJb SU.nd (Lr (F5 d) kQ bF gT) FX)))
  aBN)),5)
 refine(0,pl,2,B,λD L G I s0 J M=>(mGQ L M));refine E4 (K:=K) (a:=L) (xs:=iv (Fb D)) (λj σ H1=>∃(r:Nat)(N:bO),σ=[kR,mAZ mW,aN0,N]/\H1=G/\∀x,yK x=true↔∃p,p∈D.take j/\x=aAS)
  (60,58,29,λx=>by simp) (λj σ H1 _ (_,_,_,e,_)=>by rw[e];exact mN M) ?_ ?_
 .rintro j y σ H1 hj ⟨r,N,rfl,rfl,d⟩;rw[ArY] at hj;obtain⟨bt,O,rfl⟩:mO0 D:=by
   cases e:(Fb D)[j]? with
   |none=>rw[e] at hj;cases hj
   |some x=>rw[e] at hj;exact lU
  obtain⟨p,hp,rfl⟩:∃p,D[j]? =gH /\bt=1<<<p:=by
   rw[Fb,ArY] at O
   cases e:D[j]? with
   |none=>rw[e] at O;cases O
   |some x=>rw[e] at O;exact(uA x O)
  refine(16,27,mC s0 hF,46,T.Vq,2,X.P,_,dx,fs,0,nP s0 f o,35,T.RK,u,0,l,0,.inl (m,aII,mH (nP s0 f v),2,(z p (g p ((I.2 p).mp (Asl hp)))).symm),13,r|||1<<<aAS,0,2,λx=>?_);rw[Ate,Atx,d,Eb,AsA,hp];simp only[Option.toList_some,List.mem_append,List.mem_singleton];constructor
  .rintro(⟨q,a,b⟩|q)
   .exact(q,mH a,b)
   exact(p,dZ,q)
  rintro⟨q,a|a,b⟩
  .exact mH (mO q a b)
  subst a;exact mI b
 rintro σ H1 ⟨r,N,rfl,rfl,d⟩;have e:r=Fu X.E pl:=by
  apply Atg;intro x;have U:=d x;rw[ArX,Fb,ArX,AsC] at U;have:yK x=true↔(Fu X.E pl).testBit x=true:=by
   rw[U,(PP X.E pl x)];constructor
   .rintro⟨p,a,b⟩;have hb:=(I.2 p).mp a;exact(p,ok.Mp (g p hb),hb,b)
   rintro⟨p,_,a,b⟩;exact(p,(I.2 p).mpr a,b)
  cases Y:yK x<;>cases h4:(Fu X.E pl).testBit x<;>simp[Y,h4] at this⊢
 rw[e];exact(0,k _ s0)
def Aff(b:Bool)(xs:aK):HO:=if b then .Ac xs else iY
theorem CS.of(h:H a=mB (Aff b xs)):CS K b H a xs:=by
 cases b with
 |true=>exact mN h
 |false=>exact nO h
def Cs(E:FE)(i w pl:Nat):gY:=if mPg i≠0 then(w,mPg i,) else(0,0,)
theorem On(h:xs≠[])(hx:xs[xs.length - 1]? =aY):mDq xs 1 x:=by
 unfold BX;have a:mFy 1:=by
  cases xs with
  |nil=>exact aAg
  |cons=>simp
 rw[Adx a];exact hx
theorem SV(f:bD){w n:Nat}(h:w<n):BX aIJ (w:Int)=some (uH mE f w):=by apply AZ;rw[ArY,Be,ArY,AsY h];rfl
def Cz(H:Hp)(r:Addr)(w pl:Nat):Prop:=H r=oI [mE (w:Int),mAZ mE]
def Ap5(t:Aw):Sp:=λvs H Q _=>∃(X:Fw)(b1:Bool)(sa s0 s1:Addr)(a b c P1:Nat),vs=[kP,aAJ]/\ eK /\Om t X H/\H sa=mB (Aff b1 [mF s0,mF s1])/\Cz H s0 a b/\Cz H s1 c P1/\a<=4/\c<=4/\
 ∀R d e H',aO ->H R=none->H d=none->H e=none->H' R=wS d e->Cz H' d (rP 0 a b).1 (rP 0 a b).2->Cz H' e (rP 1 c P1).1 (rP 1 c P1).2->sQ R
theorem PQ:AD ["self","states","left","state","finishing","places"] aCO (A0 Aaq):=aG
theorem Afg(T:aD):A4 P w K mg base A9 4 t.Ko t.AbC aCO (Ap5 t):=by
 refine oW T.Ko.F.ok PQ
 .obtain⟨X,b1,sa,s0,s1,a,c,d,P1,rfl,_⟩:=h;rfl
 obtain⟨X,b1,sa,s0,s1,a,c,d,P1,rfl,ok,ac,f,ae,af,ag,ah,k⟩:=h;obtain⟨ai,hF,g⟩:=id ac;obtain⟨Hf,aj,ak,al⟩:=ok.Hf;obtain⟨m,am⟩:∃m,Hf[X.E.Aq]? =some m:=(_,mKr X.E.Aq Hf.length);obtain⟨an,ao,ap,aq,ar⟩:=mC al am;refine(_,(Ak (pY PQ.nd eU)
  (Ak (BS Asq rfl (AeM (K:=K) b1 false rfl rfl T.K0 (uC aQ (qQ aX fB))) (tF 3 PQ.nd 4) (Ak (sA PQ.nd (Bx aL T.B_.c T.MZ.h (Ap4 T) bR T.MZ.b .nil Ay (mT (uW (uE 3) (qQ bI (uE 3))))))
  (Ao (Cu (mDL (mT (Ie (qR bQ) (mCe (uE 3) bQ) (CV (uV Ar)))))))))
  (vM (CV (uV gS))))),5)
 refine(aR,λD as=>?_);have o:Ab H aHU:=mP as;refine(16,27,mC o hF,46,T.Vr,30,X.VA,36,nD o (mC g aj),On (x:= mF m) (λe=>by rw[At2] at e;rw[e] at ak;simp at ak) (by rw[ArX,ak,At6,ArY,am];rfl),sa,m,3,mGU o,mGV o,5);have au:∀(j q u p:Nat),j<=1->q<=4-> aIK.testBit p=true-> aFe=true:=λj q u p hj hw h=>by rw[Atd,AsF] at h;exact ok.KN _ j q p hj hw h.2
 refine Fn (J:=SI K b1 false sa m) 2 (λj σ H1=>∃(v v4 B:bO)(done:aK),σ=[kR,mG sa,mG D,v,v4,B]/\ fS /\H1 D=mB (.Ac done)/\done.length=j/\(mPh 1 0 mPi)/\(mPh 2 1 mPj))
  (162,[],2,o,88,kS,kS) ?_ ?_ ?_ ?_
 .rintro j σ H1 hj ⟨v,v4,B,done,rfl,C,_⟩;refine(48,mGU C,mGV C,mKs j s0 s1,mKs j an ao)
 .rintro σ H1 ⟨v,v4,B,done,rfl,C,_⟩;exact(19,mGU C,mGV C,mH aF)
 .rintro j σ H1 y av hj ⟨v,v4,B,done,rfl,C,aw,ax,ay,az⟩ ⟨a0,x,a3,rfl,a4,rfl,hx,hy⟩;have hx':=hx _ (mGU C);have a5:=xQ mGV C;obtain⟨G,I,q,u,rfl,rfl,a6,a7,a8,a9,ba⟩:∃G I q u,x= mF G/\a3= mF I/\Cz H G q u/\H I=tL (vw X.E X.E.Aq j)/\q<=4/\(j=0->q=a/\u=c)/\(j=1->q=d/\u=P1):=by
   match j,hj with
   |0,_=>exact(s0,an,a,c,196,ae,mC g aq,ag,aIL,kS)
   |1,_=>exact(s1,ao,d,P1,196,af,mC g ar,ah,kS,aIL)
  have s2:Ab H1 aWq:=mP a4;have L:Ab H aWq:=mX C s2;refine(mGk a0 Af);generalize Aa H1 a0 (wT G I)=av at s2 L;refine(22,mC L hF,30,G,36,qX L a6,dW,16,G,36,qX L a6,cN,I,36,nD L a7,SV _ aA,13,X,0,ok,ac.same L,λp hp=>au j q u p aA a8 hp,λM s3=>?_);have bb:=mX L s3;have bc:=nP s3 s2 aw;refine(0,pL bc,5);have bd:∀(r:Addr)(be bf:Nat)(N:Hp)(l:aK),Cz H1 r be bf->Ab M N->r≠D->Cz aN5 r be bf:=λr be bf N l h bg bh=>by show(aN5) r=_;rw[Ah bh];exact nP bg s3 (qA h)
  have tail:∀(O:Addr)(N:Hp),Ab M N->M O=none->Cz N O (aIM).1 (aIM).2->∃(U:aK),(aIN) D=nV U/\U.length=j+1/\(1<=j+1->∃r,aN6 /\U[0]? =mG r/\mPi aIN)/\(2<=j+1->∃r,aN6 /\U[1]? =mG r/\mPj aIN):=by
   intro O N s4 Y bi;have bj:O≠D:=λe=>(by rw[e,bc] at Y;cases Y);have bk:Cz aIN O (aIM).1 (aIM).2:=by show(Aa N D _) O=_;rw[Ah bj];exact bi
   refine(_,Af,by simp[ax],λ_=>?_,λbl=>?_)
   .rcases(by omega:wU j) with rfl|rfl
    .obtain⟨rfl,rfl⟩:=a9 rfl;obtain rfl:done=[]:=tY ax;exact(O,aWr,2,bk)
    obtain⟨r,bm,bn,bo⟩:=ay aF;exact(r,bm,by rw[Ask aA];exact bn,bd _ _ _ _ _ bo s4 bm.1)
   obtain rfl:j=1:=aA;obtain⟨rfl,rfl⟩:=ba rfl;exact(O,aWr,by rw[eL,ax];rfl,bk)
  have bp:∀(N:Hp)(l:aK),Ab M N->Ab H aN5:=λN l s4=>vO bb s4 as;refine aAD;by_cases c0:Fu X.E aIK=0
  .rw[show aWs=false by rw[c0];rfl];refine Az (20,λO Y=>?_);obtain⟨U,a1,a2,bq,br⟩:=tail O (Aa M O (.Al [cB,cB])) (mP Y) Y (by unfold Cs;rw[mAD z c0];exact Af);exact aWt
  rw[show aWs=true by simp;omega];refine Au (0,G,36,qX bb a6,cN,0,20,λO Y=>?_);obtain⟨U,a1,a2,bq,br⟩:=tail O (Aa M O (mGW (q:Int) ((Fu X.E aIK:Nat):Int))) (mP Y) Y (by unfold Cs;rw[mK c0];exact Af);exact aWt
 rintro σ H1 ⟨v,v4,B,done,rfl,C,aw,ax,ay,az⟩;obtain⟨bs,bt,a9,bu⟩:=ay aA;obtain⟨bv,bm,ba,g1⟩:=az aA;refine(0,D,36,mN aw,mB5 a9,0,D,36,mN aw,AZ (j:=1) ba,gL,λR bw=>?_);exact k R bs bv _ (mKi C bw) (BL C bw) bt.2 bm.2 Af (zQ bw bu) (zQ bw g1)
theorem Afh(a p:Nat):a&&&1<<<p≠0↔mPk p=true:=by
 rw[M0];constructor
 .rintro⟨i,b,c⟩;rw[Eb] at c;subst c;exact b
 intro h;exact(p,h,mGv p)
theorem Ap6(h:KM H v f){m:Nat}(hm:m<=1):∃d e lm,H v=wS d e/\mKt d e=mG lm/\H lm=some (zY pT (f m)):=by
 obtain⟨d,e,a,b,c⟩:=h;rcases(by omega:wU m) with rfl|rfl
 .exact(d,e,d,a,cN,b)
 exact(d,e,e,a,dW,c)
theorem WY(h:H q=oI [aIB,aI])(b:Cz H a κ.w aN7):Dv H eW q:=by refine(oH (mPl q h (mKu a b)));simp[Ds,Ky.depth,Ky.C2]
theorem Oo(h:aN3):∀a∈ aDn,a∈IR E:=by intro a ha;obtain⟨i,b,rfl⟩:=aAN;unfold IR AH;grind
theorem JA(ok:eK):∀a∈IR X.E,DR a:=by intro a ha;obtain⟨s,hs,rfl⟩:=aAN;obtain⟨i,b,rfl⟩:=Asy hs;have:=ok.BQ i b;unfold AH at this;grind
theorem Ap7(ok:eK)(kb:Kb κ)(a:nI (mA6 AA).testBit κ.p)(b:∀r,r<AA->(mA6 r).testBit κ.p=false):WX X.E κ AA:=by
 constructor
 .rintro q ⟨c,d,e⟩;rcases Atq q.length AA with h|h
  .exfalso;have:=(mPm q.length).mpr (_,Oo c,by simp[Cc],d);have f:=b _ h;unfold vw at f;rw[this] at f;cases f
  exact h
 rintro rfl;obtain⟨q,_,g,hp⟩:=(mPm 0).mp a;obtain rfl:q=[]:=tY aA;exact(9,hp,aR)
theorem Ap8:∀{n:Nat},p n=true->∃x r,(oP (n+1)).filter p=x::r/\p x=true/\∀y,y<x->p y=false:=by
 intro n h;have key:∀k,k<=n+1->(∃x r,(oP k).filter p=x::r/\p x=true/\∀y,y<x->p y=false)\/((oP k).filter p=[]/\∀y,y<k->p y=false):=by
  intro k
  induction k with
  |zero=>intro _;exact mI (2,λy hy=>by omega)
  |succ k a=>
   intro hk;rw[Atl,Ath];grind
 rcases key (n+1) aF with h'|⟨_,h'⟩
 .exact h'
 rw[h' n aA] at h;cases h
theorem Mq[mDw κ]{a:fI}{k:κ}(h:Bc a k=bJ):(k,v,)∈a:=by
 unfold Bc at h
 cases hf:a.find? (λb=>decide (b.1=k)) with
 |none=>rw[hf] at h;cases h
 |some q=>
  grind
theorem AO.more(h:pU g)(kb:Kb κ)(hf:WX X.E κ AA)
 (i:xN g eW) (ha:pP a) (j:pP s) (v:pP B) (hk:mKv X.D) (C:H' X.D=vR aIO)
 (a1:H' a=pI t.BD (Dm κ I AA .Ax s B)) (a2:H' s=nV []) (J:H' B=rK []) (L:H' I=oI aWk) (os:nA o I) (M:I≠a/\I≠s/\I≠B):
 ∃o',mCw aIO /\Gw X.F o H g o' H' aIO:=by
 let o':Bj:=λc=>if c=a\/c=s\/c=B then sR a else o c
 have BM:aWu:=λc u e=>by grind
 have ev:Ev (λb=>b=X.F) o H o' H':=by
  refine(λc u e nb=>?_,BM,aIP)
  .refine hk c u e λz=>?_;subst z;exact nb _ h.od rfl
  grind
 have rg:∀O x,Rg g O x->Rg aIO O x:=λO x q=>vD q;have Q:=ZL i;refine(o',(hk _ _ h.f (λe=>by have:=h.f;rw[e,h.d] at this;cases this),aWv,C,aWw,h.nn,5,aIP,λc u e=>(mC BM (sC h.st)).trans (sC h.so),λc e=>?_,eH),ev.As (λ_ z=> mH z),rg,λO x q=>?_)
 case refine_5=>
  rcases oS q with q|q
  .exact iS
  grind
 .rw[As7,AsT];refine(h.nd,9,λx hx y hy e=>?_);grind
 .have hc:=sC h.st;exact hk c u hc λz=>(by subst z;have:=mC h.so e;rw[h.od] at this;cases this)
 .show(if c=a\/c=s\/c=B then sR a else o c)=none;rw[Asa]
  .refine h.un c ?_
   cases q:H c with
   |none=>rfl
   |some u=>obtain⟨u',e'⟩:=ev.there c u q;rw[e] at e';cases e'
  grind
 rcases oS hq with hq|hq
 .obtain⟨O,x,e,ne,k⟩:=aAR;exact(O,x,e,ne,k.ev ev ne rg aF)
 obtain rfl:q=(eW,aI,):=(mR hq);refine(179,(λz=>by rw[z,h.f] at ha;cases ha),dx,I,AA,.Ax,s,B,a1,mK aZ,mK (mI aZ),mK aLn,L,5,kb,hf,(mGX a2),(mGX J),aZ);grind
def Ap9(t:Aw):Sp:=λvs H Q _=>∃(X:Fw)(o:Bj)(n:Nat)(b:bH)(c:Addr)(κ:Kt),vs=[kP,aIB,mF c]/\ eK /\pU b/\Cz H c κ.w aN7 /\o c=none/\Kb κ/\(mA6 X.E.Aq).testBit κ.p=true/\
 ∀a o' H' d,mCw d->zX b d->tK d->oJ aI
abbrev ApA:List Str:=aWx
theorem PR:AD aWx aL3 (A0 Vb):=aG
theorem ApB(T:aD):A4 P w K mg base A9 3 t.M_ t.AbF aL3 (Ap9 t):=by
 refine oW T.M_.F.ok PR
 .obtain⟨X,o,n,b,d,κ,rfl,_⟩:=h;rfl
 obtain⟨X,o,n,b,d,κ,rfl,ok,fs,f,ac,kb,ae,k⟩:=h;have hu:=aBQ;have af:=fs.len;obtain⟨Hf,g,ag,ah⟩:=ok.Hf;refine(_,(Ak (rL PR.nd (CV (pS 1 2)))
  (Ak (AU (Yl (Zr hu bF aX)) (Ak (HD (i:=4) rfl PR.nd rfl rfl jH aMX (BZ (own:=[("rest",5,),("view",6,)]) (xP ApA Vb)) (pZ (tF 5 PR.nd 6)) (λ_ _ _ _ _=>Rk (qR (uW (qQ (sN cC aQ) aIQ) aIQ))) (pZ bQ))
  (Ao (mB0 aX bF (Dc T.CN.k (Apl T) bR rfl T.CN.m T.MT.b .nil Ay (Ad aQ (oV aW (zI B9 4))))))) AY)
  (vM (Lr hu aX bF gT)))),5)
 refine(16,gL,λl ai=>?_);have sK:Ab H (nX l aFf):=mP ai;have m:=mA7 sK;have aj:Dv (nX l aFf) eW l:=WY Af (mC sK f);have ak:(nX l aFf) l=some aFf:=Af;generalize Aa H l aFf=H1 at sK m aj ak;refine(16,27,m.f,46,T.NC,2,X.D,0,mI (180,2),0,5)
 cases q:Bc b eW with
 |some v=>
  refine cD;obtain⟨al,a,e,_⟩:=fs.kn _ (Mq q);injection e with am an
  subst an;refine(0,27,m.f,102,mI (180,q.symm),k a o H1 b m (rB sK) (Mq q))
 |none=>
  refine eD;refine(0,27,m.f,46,T.Vr,2,X.VA,0,nD m.st g,λL ao=>?_);refine EA (J:=MM K X.VA) Hf.length (λj B=>tD B/\B L=mGr iv (aB7.filter λr=>(mA6 r).testBit κ.p)) (yB ao)
   (λj B hj ap=>(19,mGY ap.1 g,197)) (λB ap=>(_,mGY ap.1 g,168)) ?_ ?_
  .rintro j B y aq hj ⟨s2,C⟩ ⟨D,x,rfl,ar,rfl,hx⟩;have hx':=hx _ (mGY s2 g);rw[ArY,cW] at hx';simp at hx';subst hx';obtain⟨as,au,lm,av,aw,ax⟩:=Ap6 (ah j _ cW) kb.m;have s3:Ab B (Aa B D aN8):=mP ar;have G:=aAI;have ay:mEo B D aN8:=Af;have az:=rY C;generalize Aa B D aN8=aq at s3 G ay az;refine(D,0,nO ay,2,3,8,178,Hf[j],36,nO (nP G m.st av),aw,150,cN,lm,36,mGY G ax,SV _ (zP kb.w),150,dW,13,0,5);have I:(oP (j+1)).filter aN9=aB7.filter aN9++if aIR then[j] else[]:=by
    rw[Atl,Ath];congr 1
    cases hb:aIR<;>simp[hb]
   have a0:(((aDs&&&1<<<κ.p:Nat):Int) != 0)=aDs.testBit κ.p:=by
    cases hb:aIR with
    |true=>
     have:=(Afh aDs κ.p).mpr hb;simp;omega
    |false=>
     have:¬(aDs&&&1<<<κ.p≠0):=λz=>(by rw[(Afh _ _).mp z] at hb;cases hb);have:aDs&&&1<<<κ.p=0:=aA;rw[this];rfl
   rw[a0]
   cases hb:aIR with
   |true=>
    rw[hb,bE] at I;refine Au (0,_,az,BA ?_,qH G ao,5)
    .rw[ArX];have:=Aun aN9 aB7;rw[As4] at this;have:=ok.Aq;omega
    rw[Af,I];simp
   |false=>
    rw[hb,bS] at I;refine Az (oH G);rw[az,I,Aum]
  rintro B ⟨s2,C⟩;rw[ag] at C;obtain⟨AA,a1,a2,a3,a4⟩:=Ap8 (p:=λr=>(mA6 r).testBit κ.p) (n:=X.E.Aq) ae;rw[a2] at C;have M:=m.same s2;refine(40,147,cN,λa dx ha a5 a6=>(a,dx,d,κ,AA,190,λN O a7 a8 a9 ba bb=>fW));have bc:∀c,(Aa (qL B dx a) a (nB t.BD [])) c=none->B c=none/\c≠a/\c≠dx:=λc e=>by have bd:c≠a:=λz=>aIG;rw[Ah bd] at e;have be:c≠dx:=λz=>aIG;rw[Ah be] at e;exact(mO e bd be)
  obtain⟨U,_,bf⟩:=bc N ba;obtain⟨bg,_,bh⟩:=bc O bb;have Y:∀c u,B c=aM ->(aFg) c=some u:=λc u e=>by rw[nZ ha,nZ bg,nZ U,nZ ha,nZ a5];exact e
  have b1:(aFg) a=some (nB t.BD (Dm κ d AA .Ax N O)):=Af;have bi:sL (aFg) N []:=(by rw[Ah a7,Ah a9,Af]);have bj:oB (aFg) O jE:=(mA8 a8);generalize aFg=bk at Y b1 bi bj;have bl:Dv bk eW l:=WY (nP Y s2 ak) aOa;have bm:=qY M.d;refine(0,27,qY M.f,102,mI (b,eW,l,bm,2,bl,aBI,2),5);rw[MJ _ q];have bn:∀c u,B c=aM ->c≠a/\c≠N/\c≠O:=λc u e=>(AR e ha,AR e U,AR e bg);have bo:∀c,B c=none->c≠X.D:=λc e z=>(mBz z M.d);have bp:d≠X.D:=λz=>(mGZ fs.d z f);obtain⟨o',g1,g2⟩:=M.more (H':=mPn b) kb (Ap7 ok kb a3 a4) q ha U bg (λc u e hc=>by rw[gW];exact sC Y) Af (oN (bo _ ha) b1) (oN (bo _ U) bi) (oN (bo _ bg) bj) (mC0 Ah bp aOa) ac (nP bn s2 (mC sK f));have bq:l≠X.D:=λz=>(mGZ fs.d z ai);have br:Dv (mPn b) eW l:=WY (by rw[Ah bq];exact nP Y s2 ak) (by show(Aa bk X.D _) d=_;rw[Ah bp];exact aOa)
  refine(0,27,g1.f,102,mI (_,eW,l,mH g1.d,2,br,5),k a o' _ _ g1 (Gw.trans (rB (mX sK s2)) g2) (rV aC));rw[rH OR q,bE]
theorem Gw.Ci(g:aFh)(hc:pP c):Gw F o H k (Vp.Ci o' c x) H' k':=
 ((g.ev.keep,λb u e=>by rw[mCu hc];exact g.ev.own b u e,g.ev.there),g.rg,g.fr)
theorem Gw.CA(g:aFh)(hc:pP c):Gw F o H k o' (Aa H' c u) k':=
 ((λb v e n=>by rw[nZ hc];exact g.ev.keep b v e n,g.ev.own,λb v e=>by rw[nZ hc];exact g.ev.there b v e),g.rg,g.fr)
theorem Gw.free(g:aFh)(e:H c=aM)(h:nA o c):aWi:=g.ev.free e h
theorem Gw.none(g:aFh)(e:mFW H' c):mFW H c:=by
 cases q:H c with
 |none=>rfl
 |some u=>obtain⟨u',e'⟩:=g.ev.there c u q;rw[e] at e';cases e'
def FB(fl:aIS):List V:=fl.map λp=>nC p.2
def WZ(a b c P1:Nat)(κ:Kt):Prop:=(κ.m=0/\κ.w=a/\pM κ.p=true)\/(κ.m=1/\κ.w=c/\P1.testBit κ.p=true)
def ApC(t:Aw):Sp:=λvs H Q _=>∃(X:Fw)(o:Bj)(n:Nat)(b:bH)(sa s0 s1:Addr)(c d e P1:Nat),vs=[kP,aAJ]/\ eK /\pU b/\H sa=wS s0 s1/\o sa=none/\Cz H s0 c d/\o s0=none/\Cz H s1 e P1/\o s1=none/\c<=4/\e<=4/\
 (∀p,d.testBit p=true->(mEp 0 c).testBit p=true)/\(mPo P1.testBit 1 e)/\
 ∀L fl o' H' f,mCw f->zX b f->H L=none->H' L=nV aFi ->o' L=none->(mKw f)->(mEq d.testBit (mO 0 c p))->(mEq P1.testBit (mO 1 e p))->(∀q∈fl,aOb)->sQ L
abbrev ApD:List Str:=aWy
theorem Op:AD aWy aCO (A0 Va):=aG
theorem Afi(T:aD):A4 P w K mg base A9 4 t.Kp t.AbE aCO (ApC t):=by
 refine oW T.Kp.F.ok Op
 .obtain⟨X,o,n,ac,sa,s0,s1,c,d,e,P1,rfl,_⟩:=h;rfl
 obtain⟨X,o,n,ac,sa,s0,s1,c,d,e,P1,rfl,ok,fs,ae,af,ag,ah,ai,aj,ak,al,am,an,k⟩:=h;refine(_,(Ak (pY Op.nd eU)
  (Ak (BS Asq rfl (Aow (K:=K) rfl rfl T.Ma dU) (tF 3 Op.nd 4) (Ao (Cu (Dz (K:=K) rfl As3 Au2 AuZ Rh aW (Ad (Dk rfl Op.nd (qC (Bb (WV T) bR rfl T.G0.m T.G0.F.kp T.G0.b .nil Ay (mT aEP))) (qD ("place",5,) ApD Va) (pE 5 Op.nd) cI (λ_ _ _ _ _=>(Bx aL T.B_.c T.M_.h (ApB T) bR T.M_.b .nil Ay (mAT bF (mCe aEP bQ))))) Ai)))))
  aBN)),5)
 refine(aR,λD ao=>?_);obtain⟨ap,mD,gD⟩:=mG0 fs.claim ao;refine(0,sa,0,nO (gD.free ae af).1,5);refine Fn (J:=WR K sa) 2 (λj σ f=>∃(aq v4:bO)(fl:aIS)(g:Bj)(r:bH),σ=[kR,mG sa,mG D,aq,v4,none]/\zV f g r/\C6 t X f g r D/\Gw X.F o H ac g f r/\f D=nV aFi /\fl.length<=j*1000/\(mKw r)/\(1<=j->∀p,d.testBit p=true->∃a,((mO 0 c p),a,)∈fl)/\(2<=j->∀p,P1.testBit p=true->∃a,((mO 1 e p),a,)∈fl)/\∀q∈fl,aOb)
  (14,[],_,ac,2,ap,mD,gD,Af,aR,9,kS,kS,9) ?_ ?_ ?_ ?_
 .rintro j σ f hj ⟨aq,v4,fl,g,r,rfl,f1,ar,g1,_⟩;exact(19,aOc,mKs j s0 s1)
 .rintro σ f ⟨aq,v4,fl,g,r,rfl,f1,ar,g1,_⟩;exact(_,aOc,aF)
 .rintro j σ f y as hj ⟨aq,v4,fl,g,r,rfl,f1,ar,g1,au,av,aw,ax,ay,az⟩ ⟨a0,x,rfl,a1,rfl,hx⟩;have hx':=hx _ aOc;obtain⟨v,B,C,rfl,a2,a3,a4,a5,a6,a7⟩:∃v B C,x= mF v/\Cz H v B C/\o v=none/\B<=4/\(mPo C.testBit j B)/\(j=0->B=c/\C=d)/\(j=1->B=e/\C=P1):=by
   rcases(by omega:wU j) with rfl|rfl
   .exact(s0,c,d,104,ag,ah,ak,am,aIL,kS)
   exact(s1,e,P1,104,ai,aj,al,an,kS,aIL)
  have a8:Ab f aWz:=mP a1;refine(mGk a0 Af);have f2:=f1.same a8;have a9:=ar.same a8;have g2:Gw X.F o H ac g aWz r:=g1.trans (rB a8);have ba:=mC a8 au;generalize Aa f a0 (mKx v)=as at f2 a9 g2 ba;have bb:=(g2.free a2 a3).1;have bc:mCv C:=by
   apply Atn;intro i G
   cases hb:C.testBit i with
   |false=>rfl
   |true=>have:=ok.Mp (ok.KN _ j B i aA a4 (a5 i hb));omega
  refine(0,pL ba,0,v,36,nO bb,dW,C,2,bc,λI bd be bf s3 bg bh=>(bd,2,(oM bh),λM bi=>?_));have bj:=f2.same s3;obtain⟨f4,bk,bl⟩:=mG0 bj.claim bi;have bm:nA g bd:=f2.un _ bg;have bn:Gw X.F g as r g be r:=rB s3;have bo:zK I.length:=by
   have:=Oj (l:=I) (m:=oP 1000) bf.1 λp hp=>by rw[Atj];exact ok.Mp (ok.KN _ j B p aA a4 (a5 p ((bf.2 p).mp hp)))
   rwa[As4] at this
  refine EA (J:=qJ bd) I.length (λi L=>∃(N:aIS)(O:Bj)(U:bH),zV L O U/\C6 t X L O U M/\C6 t X L O U D/\Gw X.F g be r O L U/\L M=nV (FB N)/\N.length=i/\(∀q∈N,Rg U q.1 q.2)/\(∀p∈I.take i,∃a,((mO j B p),a,)∈N)/\∀q∈N,aOb)
   ([],_,r,f4,bk,(mPp bl).2,bl,88,9,9,9) ?_ ?_ ?_ ?_
  .rintro i L G ⟨N,O,U,_,_,_,Y,_⟩;exact(19,aOd,by rw[ArY,Fb,ArY,mJ G];rfl)
  .rintro L ⟨N,O,U,_,_,_,Y,_⟩;exact(_,aOd,by rw[ArX,Fb,ArX];exact aF)
  .rintro i L y bp G ⟨N,O,U,bq,br,bs,Y,bt,bu,bv,bw,bx⟩ ⟨rfl,hy⟩;have bz:=hy _ aOd;rw[ArY,Fb,ArY,mJ G] at bz;simp at bz;subst bz;have b0:=a5 I[i] ((bf.2 _).mp (Asw G));refine jM;refine(22,bq.f,178,v,36,nO (aOe.free bb (g2.free a2 a3).2).1,cN,0,gL,eH);have b1:Ab bp (Aa bp q (.Al [mQ (B:Int),tH mQ I[i]])):=mP hq;refine(X,O,n,U,q,aIT,2,ok,bq.same b1,Af,bq.un _ hq,(by show j<=1;omega,a4,ok.Mp (ok.KN _ j B _ aA a4 b0)),b0,λa o' b2 b3 b4 b5 b6=>?_);obtain⟨b7,b8⟩:=(br.same b1).gw b5 (mC b1 bt);obtain⟨u,hu⟩:=AvZ.mp bs.al;obtain⟨_,b9⟩:=(bs.same b1).gw b5 (mC b1 hu);refine(_,b7,BA (by rw[FB,ArX];omega),N++[(aIT,a,)],o',b3,b4.CA b8 _,b8.Aa,b9.Aa,(Y.trans ((rB b1).trans b5)).CA bi,181,by simp[bu],aAa,hE,aAa)
   .rcases oS hz with hz|hz
    .exact mC b5.rg (bv z hz)
    obtain rfl:z=(aIT,a,):=(mR hz);exact b6
   .rw[AsA,mJ G,Atp,As0] at hp;rcases hp with hp|hp
    .obtain⟨b,hb⟩:=rC bw;exact(b,vD hb)
    obtain rfl:p=I[i]:=(mR hp);exact(a,rV aC)
   rcases oS hz with hz|hz
   .exact bx z hz
   obtain rfl:z=(aIT,a,):=(mR hz);have ca:=(bf.2 _).mp (Asw G);rcases(by omega:wU j) with rfl|rfl
   .obtain⟨rfl,rfl⟩:=a6 rfl;exact mH aWA
   obtain⟨rfl,rfl⟩:=a7 rfl;exact mI aWA
  rintro L ⟨N,O,U,bq,br,bs,Y,bt,bu,bv,bw,bx⟩;rw[AsC] at bw;have cb:sL L D aFi:=by exact(mPp Y).1
  refine(D,M,8,cb,bt,AL (by have a7:tO FB fl fl.length:=ArX ..;have cc:tO FB N N.length:=ArX ..;omega),19,fl++N,O,U,2,bq.CA bs _,bs.Aa,(g2.trans aOe).CA ao,181,by rw[Asi,AvL];omega,eH,λ_ p hp=>?_,λcd p hp=>?_,eH)
  .rcases oS hq with hq|hq
   .exact aOe.rg _ _ (rD aw)
   exact rD bv
  .rcases(by omega:wU j) with rfl|rfl
   .obtain⟨rfl,rfl⟩:=a6 rfl;obtain⟨a,ha⟩:=aWB;exact(a,rV ha)
   obtain⟨a,ha⟩:=ax aF p hp;exact(a,vD ha)
  .obtain rfl:j=1:=aA;obtain⟨rfl,rfl⟩:=a7 rfl;obtain⟨a,ha⟩:=aWB;exact(a,rV ha)
  rcases oS hq with hq|hq
  .exact rD az
  exact rD bx
 rintro σ f ⟨aq,v4,fl,g,r,rfl,f1,ar,g1,au,av,aw,ax,ay,az⟩;exact(0,k D fl (Ci g D none) f r (f1.letGo ar) (g1.Ci ao) ao au IU aw (ax aA) (ay aA) az)
theorem G8.same(h:G8 t H p g)(s:aO):G8 t H' p g:=by obtain⟨b,dx,fs,d,f,i,q,⟨u,c1,v,y⟩,h4⟩:=h;exact(b,dx,fs,d,f,nH i,q,(u,nH c1,v,λj p c z B=>nH (y j p c z B)),nH h4)
theorem Afj(l:aB):mF0 (iv l) (-1)=iv l.dropLast:=by
 by_cases h:l=[]
 .subst h;rfl
 have a:1<=l.length:=by
  cases l with
  |nil=>exact aAg
  |cons=>simp
 rw[show aMm= -((1:Nat):Int) from rfl,Se _ 1 aA kI,ArX];simp only[iv];rw[<-AuM,<-List.dropLast_eq_take]
def ApE(t:Aw):Sp:=λvs H Q _=>∃(p a sh:Addr)(b:BR)(w pl:Nat)(S:BU),vs=[aS,aI,mF sh]/\G8 t H p b/\Cz H a w pl/\wK sh S/\EB S/\S.A2.length<=1000/\w<=4/\∀R H',aO ->H R=none->Cz H' R (CQ b w pl S).1 (CQ b w pl S).2->sQ R
theorem Oq:AD ["self","state","shape","weight","places","inner"] aMa (A0 Aa7):=aG
theorem W_(T:aD):A4 P w K mg base A9 2 t.Iz t.AbX aMa (ApE t):=by
 refine mBZ T.Iz.F.ok Oq
 .obtain⟨p,c,sh,g,l,pl,S,rfl,_⟩:=h;rfl
 obtain⟨p,c,sh,g,l,pl,S,rfl,hp,m,⟨n,o,q,r⟩,u,ab,hw,k⟩:=h;obtain⟨hb,dx,fs,d,f,B,hF,_⟩:=id hp;obtain⟨ac,C,D⟩:=T.LZ;refine(_,(Ak (rL Oq.nd (Bb (Sf T) dR rfl T.Fj.m T.Fj.F.kp T.Fj.b .nil Ay (oV (uE 1) (qK 2))))
  (Ak (qE Oq.nd (uE 1))
  (Ak (nG (Ff (qR (qK 2))) (oL (CV (pS 3 4))))
  (Ak (nG (pB Y7 bF (nT C D)) (mPq bF))
  (Ak (rJ (qC (mDV (qK 2) fB)) (oC 5 Oq.nd) (mPq bQ))
  (Ao (A3 (CV (uC (qQ (qK 2) fB) bI))))))))),5)
 refine(0,c,36,nO m,cN,123,q,61,2,l,S.Bk,30,c,36,nO m,dW,5);refine(123,q,26,_,mDX r,5);by_cases e:S.A2=[]
 .have G:oO aIU.isEmpty:=(qF e);rw[G];refine Au (16,gL,λR I=>k R _ (mP I) I ?_);unfold CQ;rw[bU];exact Af
 have G:pG aIU.isEmpty:=by
  cases h:S.A2 with
  |nil=>exact nL h e
  |cons=>rfl
 rw[G];refine cD;have J:aWC:=by refine mPr e;rw[ArX,ArY,<-Awg,Aud e];rfl
 have loop:∀(M:Nat),M=(if aFj=4 then pl else Dt g pl (BB aFj) true)->EL (M7 (QG K (Ux (U1 K) (mDW 2) Uv (Uw (Ui aKO aAF)))) (EY 5) (OG (OL t.A_ "after_syllable" (Aek t) [] E0 (Bo 0) (DY (Bo 4) (DY (CU (HA K) (tC (mF t.FT)) aC6) (xW tC aBh)))) (EY 4)))
  (J_ (QS (DY (CU (QX K) (mDW 2) (Ui aKO aAF)) (xW Bo 4)))) {nx:=λ_ H'=>cU,rt:=Q} [bP,mG c,mG sh,mKy mW,mW (M:Int),none] H:=by
  intro M ae;refine(123,q,26,16,o,0,mN r,λL af=>?_);rw[Afj];have N:Ab H (nE H L aB8):=mP af;refine(L,2,(oM Af),E4 (K:=K) (a:=L) (xs:=aB8) (λi σ H1=>∃O,H1=nE H L aB8 /\σ=[bP,mG c,mG sh,mKy mW,mW ((KC g M (S.A2.dropLast.take i):Nat):Int),O]) aG3 (λi σ H1 _ (_,e,_)=>by rw[e];exact mN Af) ?_ ?_)
  .rintro i y σ H1 U ⟨O,rfl,rfl⟩;rw[ArY] at U;obtain⟨x,hx,rfl⟩:mPs S.A2.dropLast[i]?:=by
    cases e:S.A2.dropLast[i]? with
    |none=>rw[e] at U;cases U
    |some x=>rw[e] at U;exact(uA x U)
   refine(73,mC N B,hF.n1,16,72,Pu (u.2 x (mPt aFa)),p,g,_,BB x,99,2,hp.same N,NT x,aWD,2,5);rw[AsA,hx];unfold KC;rw[Atp,At4];rfl
  rintro σ H1 ⟨O,rfl,rfl⟩;rw[ArX,AsC];refine(123,mC N q,26,0,o,36,nD N r,J,0,gL,λR I=>?_);refine k R _ (mKi N I) (BL N I) ?_;unfold CQ;rw[bN,<-ae];exact Af
 refine iF;rw[show decide (mKy mQ=mQ 4)=decide (aFj=4) from Fp _ 4];by_cases Y:aFj=4
 .rw[mU Y];refine Az (loop pl (by rw[mK Y]))
 rw[mS Y];have ag:l<=3:=by
  rcases(by omega:l<=3\/l=4) with h|h
  .exact h
  exact nL (pW h NS) Y
 refine Au (73,B,hF.n1,16,72,Pu (Jw ag u.1),p,g,_,BB aFj,true,2,hp,NT _,loop _ (by rw[mM Y]))
def EQ(c:Nat)(a b:gY):Ky:= .Al [.num (c:Int),.Al [mGe (a.1:Int) (a.2:Int),mGe (b.1:Int) (b.2:Int)]]
theorem Xa(h:H q=oI [aBS,aAJ])(d:H sa=wS e f)(i:Cz H e a.1 a.2)(k:Cz H f b.1 b.2):Dv H (EQ c a b) q:=by refine((q,192,(sa,0,d,3,(mKu e i),3,(mKu f k),2),2),5);simp[EQ,Ky.depth,Ky.C2]
theorem ApF(h:EQ c a b=EQ d e f):c=d/\a=e/\b=f:=by unfold EQ at h;grind
def CK(E:FE)(κ:Kt)(i m:Nat):gY:=Cs E m (mPu i).1 (mPu i).2
theorem PU(ok:eK){m w pl p:Nat}(hm:m<=1)(hw:jK)(h:mPv pl):(mEp m (rP m w pl).1).testBit p=true/\(rP m w pl).1=w:=by
 unfold Cs at h⊢;split at h
 .rename_i e;rw[bU];refine(5,2);obtain⟨q,hq,hb,rfl⟩:=aIV.mp h;rw[Atd,AsF] at hb;obtain⟨a,b,c,d⟩:=(mPw q).mp hb.2;refine(mPw _).mpr (a,b,c,d.1,d.2.1,5);exact(mPx q).mp d.2.2
 simp at h
theorem SW{m w pl:Nat}(hw:jK):(Cs E m w pl).1<=4:=by
 unfold Cs;split
 .exact hw
 exact aR
theorem Afk(ok:eK)(kb:Kb κ)(c:mKz i){fl:aIS}(h0:mKA i 0)
 (d:mKA i 1) (q:aB) (hq:mGT X.E):aWE:=by
 obtain⟨a1,a2,f⟩:=hq;have h:aWF:=λj hj=>pH a1 j hj;have Av:∀b∈ aOf,DR b:=λb hb=>mKB b h;rw[W8] at a2;have e:Cc X.E.S (i::q)=lV.wd::Cc X.E.S q:=rfl;rw[e,W7 X.E.T _ _ _ _ _ kb.w (ok.BQ i c) Av] at a2;have k:=PB Av;obtain⟨p,hp,l⟩:=(NY ..).mp a2.2;have n:=mKC i c fY;have r:aWG:=(by rw[As1] at f;omega);have s:=(J6 X.E.T (IR X.E) (JA ok) X.E.Aq fY _ p k n).mpr (mPy h r l);have u:=ok.KN _ _ _ p k n s;have v:aWH.testBit aAS=true:=
  aIV.mpr (mPz u s)
 have x:rQ i fY=((mEr i fY).1,aWH,):=by unfold CK Cs;grind
 have key:∀m,fY=m->(mKA i m)->∃z∈fl,D6 X.E z.1 q:=by intro m hm hc;subst hm;obtain⟨a,ha⟩:=hc aAS (oD x v);refine(_,ha,h,fW,r);rw[x];exact(l.2.1,(((ok.AT p u).2) _).mp l.2.2)
 grind
theorem ApG(ok:eK)(kb:Kb κ)(hq:mGT X.E):i<X.E.S.length/\ lV.wd.vf=κ.m:=(hq.1 i aC,hq.2.1.1)
theorem Afl(h:aE0)(a:i<S.length)(b:aOg <=64):M<2 ^ 64:=by
 apply Atn;intro x hx
 cases hb:aNz with
 |false=>rfl
 |true=>
  have c:=((h x).mp hb).2;have d:=mGy i S.length a;have e:mJ0 i:=rfl;omega
structure GE where
 k:Ky
 x:Addr
 dx:Addr
 fo:Addr
 so:Addr
 W:Nat
 ms:List Nat
 G:J8
 s0:Nat×Nat
 s1:Nat×Nat
structure JB(t:Aw)(X:Fw)(H:Hp)(o:Bj)(kvs:bH)(κ:Kt)(j:Nat)(g:GE):Prop where
 k:g.k=EQ g.G.Bl g.s0 g.s1
 x:H g.x=some (.Ag t.CH g.dx (Ft g.G.Bl g.fo g.so g.W))
 mx:C6 t X H o kvs g.x
 fo:H g.fo=some (.Ac (FB g.G.fl))
 HP:o g.fo=none
 rg:∀p∈g.G.fl,Rg kvs p.1 p.2
 so:H g.so=some (pT g.ms)
 IV:C6 t X H o kvs g.so
 len:g.ms.length=g.G.ss.length
 mask:∀(j i M:Nat),g.G.ss[j]? =mB i->g.ms[j]? =mB M->KG X.E.S i M
 W:g.W<2 ^ 500
 le:g.G.ss.length<=j
 ss:∀i∈g.G.ss,i<X.E.S.length/\ lV.Bl=g.G.Bl/\rQ i 0=g.s0/\rQ i 1=g.s1
 c0:∀p,g.s0.2.testBit p=true->∃a,((mO 0 g.s0.1 p),a,)∈g.G.fl
 c1:∀p,g.s1.2.testBit p=true->∃a,((mO 1 g.s1.1 p),a,)∈g.G.fl
section
variable {X:Fw} {H H':Hp} {o o':Bj} {kvs kvs':bH} {κ:Kt} {j j':Nat} {g:GE}
theorem JB.gw(h:mKD H)(w:zX kvs kvs')(hj:j<=j'):JB t X H' o' kvs' κ j' g where
 k:=h.k
 x:=(h.mx.gw w h.x).1
 mx:=(h.mx.gw w h.x).2
 fo:=(aWI).1
 HP:=(aWI).2
 rg:=λp hp=>w.rg _ _ (rC h.rg)
 so:=(h.IV.gw w h.so).1
 IV:=(h.IV.gw w h.so).2
 len:=h.len
 mask:=h.mask
 W:=h.W
 le:=AsV h.le hj
 ss:=h.ss
 c0:=h.c0
 c1:=h.c1
theorem JB.Aa(h:mKD H)(i:g.x≠c)(q:g.fo≠c)(s:g.so≠c):mKD (mEm c) where
 k:=h.k
 x:=by rw[Ah i];exact h.x
 mx:=h.mx.Aa
 fo:=by rw[Ah q];exact h.fo
 HP:=h.HP
 rg:=h.rg
 so:=by rw[Ah s];exact h.so
 IV:=h.IV.Aa
 len:=h.len
 mask:=h.mask
 W:=h.W
 le:=h.le
 ss:=h.ss
 c0:=h.c0
 c1:=h.c1
end
def gD(gs:mY GE):List (Ky×V):=gs.map λg=>(g.k,nC g.x,)
structure Eu(t:Aw)(X:Fw)(κ:Kt)(n:Nat)(o:Bj)(H:Hp)(kvs:bH)(D:Addr)(j b:Nat)(Hj:Hp)(oj:Bj)(kj:bH)(gs:mY GE):Prop where
 fs:AO t X Hj oj n kj
 mD:C6 t X Hj oj kj D
 gw:Gw X.F o H kvs oj Hj kj
 d:Hj D=some (.dT aFk)
 ge:∀g∈gs,JB t X Hj oj kj κ j g
 nd:aWJ.Nodup
 pw:gs.Pairwise λa b=>a.x≠b.x/\a.so≠b.so
 len:gs.length<=b
 ER:∀i,i<j->i<X.E.S.length-> lV.wd.vf=κ.m->∃g∈gs,i∈g.G.ss
theorem ApH(h:Bc aFk k=bJ):∃g∈gs,g.k=k/\v= .ref g.x:=by obtain⟨g,hg,e⟩:=pA (Mq h);grind
theorem ApI(h:xN aFk k):k∉gs.map (·.k):=by have:=ZL h;rw[gD,AsB] at this;exact this
theorem ApJ(c:aWJ.Nodup)(hg:g∈gs):Bc aFk g.k=some (mF g.x):=by
 induction gs with
 |nil=>simp at hg
 |cons a gs d=>
  rw[Asn,AtY] at c;rcases pN hg with rfl|hg
  .exact FO (κ:=Ky) rfl
  have f:¬a.k=g.k:=λe=>c.1 (xF e AtE hg);rw[gD,Asn,FP f];exact d c.2 hg
section
variable {X:Fw} {κ:Kt} {n j b:Nat} {o oj:Bj} {H Hj:Hp} {kvs kj:bH} {D:Addr} {gs:mY GE}
theorem Eu.same(h:aFl)(s:mGi Hj):Eu t X κ n o H kvs D j b H' oj kj gs:=
 (h.fs.same s,h.mD.same s,h.gw.trans (rB s),nH h.d,mKE (rB s) aF,154)
theorem Eu.Xb(h:aFl)(f:mCw k')(w:Gw X.F oj Hj kj o' H' k'):Eu t X κ n o H kvs D j b H' o' k' gs:=
 (f,(h.mD.gw w h.d).2,h.gw.trans w,(h.mD.gw w h.d).1,mKE w aF,154)
theorem Eu.As(h:aFl)(hj:j<=s)(hb:b<=u)(hc:∀i,j<=i->i<s->i<X.E.S.length-> lV.wd.vf≠κ.m):Eu t X κ n o H kvs D s u Hj oj kj gs:=
 (h.fs,h.mD,h.gw,h.d,mKE Gw.refl hj,h.nd,h.pw,AsV h.len hb,λi v y z=>by
  rcases Atq i j with q|q
  .exact h.ER i q y z
  exact nL z (hc i q v y))
theorem Eu.new(h:aFl)(hk:xN aFk (EQ c s0 s1))(hx:nA Hj x)(s:nA Hj dx)(aa:dx≠x)(v:so≠x)(y:nA (mBK Hj t.CH) so)
 (ab:pP D) (z:Hj L=nV aFi) (ac:nA oj L) (ae:mKw kj) (c0:mEq s0.2.testBit (mO 0 s0.1 p)) (c1:mEq s1.2.testBit (mO 1 s1.1 p)):
 ∃o',Eu t X κ n o H kvs D j (b+1) (Aa (Aa (Aa (mBK Hj t.CH) so aEI) x (mEj c L)) D aWK) o' kj (gs++[aOh]):=by
 have B:nA Hj so:=by
  rw[Ah v] at y;by_cases e:so=dx
  .subst e;exact s
  rwa[Ah e] at y
 have C:=h.same (Ab.Aa (o:= .own x) s);obtain⟨f2,af,g2⟩:=C.fs.claim (u:= nB t.CH []) (wL aa hx);have I:=C.Xb f2 g2;obtain⟨J,ag,g3⟩:=mG0 I.fs.claim y;have O:=I.Xb J g3;have Q:=(af.gw g3 Af).2;have U:L≠x:=λe=>(by rw[<-e,z] at hx;cases hx);have ah:L≠so:=λe=>(mKl z);have ai:=O.mD.Aa (b:=x) (u:= mEj c L);refine(_,(J.CA Q (mEj c L)).CA ai aWK,ai.Aa,(O.gw.CA (h.gw.none hx)).CA ab,5,aKX,51,5)
 .rw[Af];simp[gD]
 .rcases oS hg with hg|hg
  .have q:=O.ge g hg;exact(q.Aa (λe=>by have:=iL.x;rw[e,hx] at this;cases this) (λe=>by have:=iL.fo;rw[e,hx] at this;cases this) (λe=>by have:=iL.so;rw[e,hx] at this;cases this)).Aa (λe=>by have:=iL.x;rw[e,h.d] at this;cases this) (λe=>by have:=iL.fo;rw[e,h.d] at this;cases this) (λe=>by have:=iL.so;rw[e,h.d] at this;cases this)
  obtain rfl:g=aOh:=(mR hg);refine(2,5,Q.Aa.Aa,5,(by rw[Cj ah,Cj U];exact ac),ae,5,ag.Aa.Aa,2,λj i M e=>by simp at e,(show(0:Nat)<2 ^ 500 from AuS 500),aR,9,c0,c1)
  .show(Aa _ D _) x=_;rw[nQ (λe=>by rw[<-e,h.d] at hx;cases hx),Af]
  .show(Aa _ D _) L=_;rw[Ah (λe=>by rw[e,h.d] at z;cases z),Ah U,Ah ah,Ah U,Ah (λe=>by rw[<-e,z] at s;cases s)];exact z
  show(Aa _ D _) so=_;rw[nQ (λe=>by rw[<-e,h.d] at B;cases B),Ah v,Af];rfl
 .rw[As7,AsT];refine(h.nd,9,λa ha Y hc' e=>?_);obtain rfl:Y=EQ c s0 s1:=(mR hc');exact ApI hk (e▸ha)
 .rw[Av6];refine(h.pw,9,λa ha Y hc'=>?_);obtain rfl:Y=aOh:=(mR hc');exact((λe=>by have:=(h.ge a ha).x;rw[e,hx] at this;cases this),(λe=>by have:=(h.ge a ha).so;rw[e,B] at this;cases this))
 .have:=h.len;simp;omega
 intro i aj ak am;obtain⟨g,hg,q⟩:=h.ER i aj ak am;exact(g,vD hg,q)
theorem Eu.add(h:aFl)(hg:g∈gs)(aa:KG X.E.S j M)(s:M<2 ^ 64)(hj:mKz j)(hc:lW.Bl=g.G.Bl)(h0:rQ j 0=g.s0)(ab:rQ j 1=g.s1)(u:pP g.x)(v:pP g.so):
 ∃C,Eu t X κ n o H kvs D (j+1) b aOi oj kj C/\∀z∈C,∃y∈gs,z.x=y.x/\z.so=y.so:=by
 have I:=iL;let g':GE:=(g.k,g.x,119,g.W|||M,g.ms++[M],(g.G.Bl,g.G.fl,g.G.ss++[j]),g.s0,g.s1);have ac:JB t X aOi oj kj κ (j+1) g':=by
  refine(I.k,Af,I.mx.Aa.Aa,5,I.HP,I.rg,5,I.IV.Aa.Aa,5,λa i J ae af=>?_,5,5,λi L=>?_,I.c0,I.c1)
  .show(uR Aa) g.fo=_;rw[mCx Ah I.HP I.mx.o,mCx Ah I.HP I.IV.o];exact I.fo
  .show(uR Aa) g.so=_;rw[nQ (λe=>by have:=I.x;rw[e,I.so] at this;cases this),Af];grind
  .show(g.ms++[M]).length=(g.G.ss++[j]).length;rw[Asi,Asi,I.len];rfl
  .have O:=ae;have Q:=af;by_cases ha:a<g.G.ss.length
   .rw[Ask ha] at O;rw[Ask (oD I.len ha)] at Q;exact I.mask a i J O Q
   have ag:=(nS O).1;rw[Asi,AsD] at ag;obtain rfl:a=g.G.ss.length:=aA;rw[lL,At9] at O;rw[<-I.len,lL,At9] at Q;grind
  .exact Nat.or_lt_two_pow I.W (yL s)
  .have:=I.le;grind
  have hi':=L;rcases oS hi' with hi'|hi'
  .exact I.ss i hi'
  grind
 obtain⟨A,B,ah⟩:=List.append_of_mem hg;subst ah;have ai:=h.pw;rw[Av6,AvR] at ai;refine(A++g'::B,((h.fs.CA I.IV (.Ac (iv g.ms++[aIH]))).CA I.mx.Aa aWL,h.mD.Aa.Aa,(h.gw.CA v).CA u,5,aAa,51,λi L aj ak=>?_),aAa)
 case refine_7=>
  grind
 .rw[mCx Ah h.d I.x,mCx Ah h.d I.so,h.d];simp[gD,g']
 .have other:∀z,z∈A\/z∈B->JB t X aOi oj kj κ (j+1) z:=λz hz=>by
   have am:z∈A++g::B:=by grind
   have U:=h.ge z am;have Y:z.x≠g.x/\z.so≠g.so:=by grind
   exact((U.Aa (λe=>by have:=U.x;rw[e,I.so] at this;cases this) (λe=>by have:=U.HP;rw[e,I.IV.o] at this;cases this) Y.2).Aa Y.1 (λe=>by have:=U.HP;rw[e,I.mx.o] at this;cases this) (λe=>by have:=U.so;rw[e,I.x] at this;cases this)).gw Gw.refl iA
  grind
 .have:=h.nd;simpa[g'] using this
 .rw[Av6,AvR];grind
 .have:=h.len;simpa using this
 rcases Atq i j with q|q
 .obtain⟨z,hz,hq⟩:=h.ER i q aj ak;rcases oS hz with hz|hz
  .exact(z,vD hz,hq)
  rcases pN hz with rfl|hz
  .exact(g',rV AsG,vD hq)
  grind
 obtain rfl:i=j:=aA;exact(g',rV AsG,rV aC)
end
theorem Afm:∀(cs:aP)(o:Bj),pU a->(∀c∈cs,zW a)->cs.Nodup->∃o',zV H o' a/\(∀c∈cs,o' c=none)/\∀c,c∉cs->o' c=o c
 |[],o,h,_,_=>(o,h,9,gT)
 |c::cs,o,h,hm,b=>by
  rw[AtY] at b;have ne:∀x∈cs,x≠c:=λx hx e=>b.1 (e▸hx);obtain⟨o',a1,a2,d⟩:=Afm cs (Ci o c none) (h.letGo (hm c aC)) (λx hx=>let m:=pH hm x hx;(by rw[Cj (oY ne)];exact m.o,m.f,m.k,m.al)) b.2;refine(o',a1,dY,dY)
  .rcases pN hx with rfl|hx
   .rw[d _ b.1];exact IU
   exact oY a2
  rw[Asz,not_or] at hx;rw[d x hx.2,Cj hx.1]
theorem Eu.done(ok:eK)(kb:Kb κ)(h:Eu t X κ n o H s D X.E.S.length b v y B C)(I:v ga=nV (aOj.map λg=>nC g.x))(J:nA y ga)(hb:∀g∈C,H g.x=none/\H g.so=none):
 ∃o',zV v o' B/\Gw X.F o H s o' v B/\KK t v o' X.E (Rg B) κ ga:=by
 have aa:∀c∈ aIW++aOk,C6 t X v y B c:=λc hc=>by
  rcases oS hc with hc|hc
  .obtain⟨g,hg,rfl⟩:=pA hc;exact iL.mx
  obtain⟨g,hg,rfl⟩:=pA hc;exact iL.IV
 have ab:(aIW++aOk).Nodup:=by
  rw[AsT];refine(5,5,aV2)
  .rw[List.Nodup,Avh];exact h.pw.imp λ{a b}q=>q.1
  .rw[List.Nodup,Avh];exact h.pw.imp λ{a b}q=>q.2
  obtain⟨g,hg,rfl⟩:=aAN;obtain⟨g',ac,rfl⟩:=pA hc;have:=iL.x;rw[e,(h.ge g' ac).so] at this;cases this
 obtain⟨o',ae,L,M⟩:=Afm _ y h.fs aa ab;have free:mCy y o':=λc e=>by
  by_cases hc:c∈ aIW++aOk
  .exact L c hc
  rw[M c hc];exact e
 refine(o',ae,(mO (h.gw.ev.keep,aIP,h.gw.ev.there) h.gw.rg h.gw.fr),aOj.map (·.x),aOj.map (·.G),5,free _ J,9,λj x G hx O=>?_,λi q hq=>?_)
 .have hc:c∉ aIW++C.map (·.so):=λhc=>by
   rcases oS hc with hc|hc
   .obtain⟨g,hg,rfl⟩:=pA hc;rw[(hb g hg).1] at e;cases e
   obtain⟨g,hg,rfl⟩:=pA hc;rw[(hb g hg).2] at e;cases e
  rw[M c hc];exact sC h.gw.ev.own
 .rw[I,AsB];rfl
 .rw[ArY] at hx O
  cases hg:(C.filter λg=> !g.G.fl.isEmpty)[j]? with
  |none=>rw[hg] at hx;cases hx
  |some g=>
   rw[hg] at hx O;obtain rfl:g.x=x:=(mR hx);obtain rfl:g.G=G:=(mR O);have Q:=(AtO.mp (Asl hg)).1;have U:=h.ge g Q;refine((119,g.W,g.ms,U.x,L _ (vD (AtE Q)),U.fo,free _ U.HP,U.rg,U.so,L _ (rV (AtE Q)),U.len,U.mask,U.W),λi Y=>((U.ss i Y).1,(U.ss i Y).2.1),λi Y q hq=>?_);obtain⟨s1,s2,s3,s4⟩:=U.ss i Y;exact aWM
 obtain⟨Y,af⟩:=ApG ok kb hq;obtain⟨g,hg,hs⟩:=h.ER i Y Y af;have U:=iL;obtain⟨s1,s2,s3,s4⟩:=U.ss i hs;obtain⟨z,hz,_⟩:=aWM;refine(g.G,AtE (AtO.mpr (oH hg)),hs)
 cases ag:g.G.fl with
 |nil=>rw[ag] at hz;simp at hz
 |cons=>rfl
def ApK(t:Aw):Sp:=λvs H Q _=>∃(X:Fw)(o:Bj)(n:Nat)(b:bH)(κ:Kt)(a:Addr),vs=[kP,aI]/\ eK /\pU b/\tK b/\
 ∀ga o' H' c,mCw c->zX b c->mPA c->sQ ga
abbrev Afn:List Str:=aWN
theorem JC:AD aWN aBF (A0 R4):=aG
theorem ApL(T:aD):A4 P w K mg base A9 5 t.Nf t.AbK aBF (ApK t):=by
 refine oW T.Nf.F.ok JC
 .obtain⟨X,o,n,ac,κ,a,rfl,_⟩:=h;rfl
 obtain⟨X,o,n,ac,κ,a,rfl,ok,fs,rg,k⟩:=h;have hu:=aBQ;obtain⟨ae,af,ag,ah⟩:=ok.Ap2;obtain⟨_,ai,aj,ak,al,am,an,_⟩:=id ok.pl;have kb:Kb κ:=let(_,_,_,_,_,_,_,ao):=mEs rg;ao.kb;refine(_,(Ak (pY JC.nd OU)
  (Ak (BS Asq rfl aAH (oC 3 JC.nd) (Ao (AU (uS dE cJ) (Ak (qE JC.nd (Bx aL T.B_.c T.Ko.h (Afg T) bR T.Ko.b .nil Ay (Ad (Dk rfl JC.nd (mB7 V8 dE) (qD ("shape",5,) Afn R4) (pE 5 JC.nd) cI (λ_ _ _ _ _=>(Bx aX T.B6.c T.Iz.h (W_ T) bR T.Iz.b .nil Ay (oV cJ bQ)))) Ai)))
  (Ak (tG JC.nd (mCe dE bI))
  (Ak (nG (Yl (Zr hu cC aW)) (Ao (mB0 aW cC (Dc T.E9.k (Apg T) bR rfl T.E9.m T.MR.b .nil Ay (Ad dE (mT (Bx aL T.B_.c T.Kp.h (Afi T) bR T.Kp.b .nil Ay lO)))))))
  (Ao (Cu (Bx (Lr hu aW cC gT) T.E9.c T.MS.h (Api T) bR T.MS.b .nil Ay (mT dE))))))) AY)))
  (Ao (Rp (A3 (Dk rfl JC.nd (AeS aW) (qD ("group",7,) Afn R4) (pE 7 JC.nd) (mJo (qR (qK 7))) (pZ gJ))))))),5)
 refine λD ap=>?_;obtain⟨aq,mD,ar⟩:=fs.claim (u:= iD) ap;refine(0,27,aq.f,46,T.Ac7,2,X.SA,2,(mCc aq.st af),5);refine E4 (K:=K) (a:=X.SA) (xs:=nF ae.map) (λj σ as=>∃(au v4 v6:bO)(b:Bj)(d:bH)(f:mY GE),σ=[kR,mG a,mG D,au,v4,none,v6,none]/\Eu t X κ n o H ac D j j as b d f/\∀g∈f,H g.x=none/\H g.so=none)
  (162,_,ac,[],2,(aq,mD,ar,Af,9,9,9,aF,λi av=>by omega),9) (λj σ as _ (_,_,_,b,d,f,_,C,_)=>nD C.fs.st af) ?_ ?_
 .rintro j y σ as hj ⟨au,v4,v6,b,d,f,rfl,C,aw⟩;rw[ArY] at hj;obtain⟨q,hq,rfl⟩:mG1 ae[j]?:=by
   cases e:ae[j]? with
   |none=>rw[e] at hj;cases hj
   |some x=>rw[e] at hj;exact lU
  have ax:mKz j:=(wM ag hq);obtain⟨ay,sh,az,I,M,a0,a3,a4,a5,a6⟩:=ah j q hq;have st:=C.fs.st;obtain⟨_,a7,a8,AA,a9,ba,bb,kn⟩:=Kn.FA C.fs (mC C.gw.rg rg);refine(0,131,mC st a0,47,T.Ph,30,a,_,a7,111,T.Ac5,29,0,5);rw[show decide (mQ ((lW.wd.vf:Nat):Int)=mQ ((κ.m:Nat):Int))=decide (lW.wd.vf=κ.m) from Fp _ _];by_cases bc:lW.wd.vf=κ.m
  .rw[mU bc];refine eD;refine(22,C.fs.f,30,131,mC st a0,151,2,(_,qX st a3),λM2 bd=>?_);obtain⟨be,bf,bg⟩:=mG0 C.fs.claim bd;have bh:=mC st a3;refine EA (J:=GU K sh) 2 (λi N=>∃l:aP,Ab as N/\N M2=pF l.map/\l.length=i/\∀m r,l[m]? =mB r->r≠M2/\Cz N r (mEr j m).1 (mEr j m).2)
    ([],mP bd,88,9) (λi N av (_,O,_)=>(19,qX O bh,mG2 az I av)) (λN (_,O,_)=>(_,qX O bh,aF)) ?_ ?_
   .rintro i N y bi av ⟨l,O,bj,bk,bl⟩ ⟨rfl,hy⟩;have bm:=hy _ (qX O bh);obtain⟨pi,rfl,bn⟩:mPB X.Hs (lW.wd.sh i):=by
     rcases(by omega:wU i) with rfl|rfl
     .exact(mG3 az bm a4)
     exact(mG3 I bm a5)
    have bo:=mX st O;refine jM;have bp:=mKp kn.ev (Ev.same O);refine(0,27,mC O C.fs.f,46,T.Vq,2,X.P,ai,aj,2,mC bo am,an.n3,77,_,a7,3,bp.at_,45,T.Ac6,30,X.P,a8,pi,X.E.T,κ.w,aN7,0,ok.pl.same bo,bp.st,bn.same bo,(ok.BQ j ax).sh i,ok.wl j i ax,kb.w,λR bq br bs bt=>?_);have bu:R≠M2:=λe=>(mPC bj);refine(_,mC br bj,fU,l++[R],vO O br bd,23,by simp[bk],λm r hm=>?_);by_cases bv:m<l.length
    .rw[Ask bv] at hm;obtain⟨bw,bx⟩:=bl m r hm;refine(oH bw);show(Aa bq M2 _) r=_;rw[Ah bw];exact mC br bx
    have bz:=(nS hm).1;rw[Asi,AsD] at bz;obtain rfl:m=i:=aA;rw[eL,bk,At9] at hm;obtain rfl:R=r:=aGM;refine(oH bu);show(Aa bq M2 _) R=_;rw[Ah bu];exact bt
   rintro N ⟨l,O,bj,bk,bl⟩;obtain⟨b0,b2,rfl⟩:∃x y,l=aAt:=by
    match l,bk with
    |[x,y],_=>exact aHM
   obtain⟨_,b3⟩:=bl 0 b0 rfl;obtain⟨_,b4⟩:=bl 1 b2 rfl;have b5:=mKC j ax 0;have b6:=mKC j ax 1;refine(X,true,M2,b0,b2,19,3,ok,C.fs.ff.same O,bj,b3,b4,b5,b6,λR b7 b8 b9 ca bs cb cc cd ce cf=>?_);have cg:=mX O ca;have ch:=mX st cg;refine(0,131,mC ch a0,47,T.RL,30,gL,λU cj=>?_);have ck:Ab b9 (Aa b9 U aOl):=mP cj;have cl:mEo b9 U aOl:=Af;have cm:=mX cg ck;generalize Aa b9 U aOl=cn at ck cl cm;have co:=C.same cm;have cp:=mC ck cd;have cq:Cz cn b7 (rQ j 0).1 (rQ j 0).2:=mC ck ce;have cr:Cz cn b8 (rQ j 1).1 (rQ j 1).2:=mC ck cf;have cs:nA b R:=mG4 O bs;have ct:nA b b7:=mG4 O cb;have cu:nA b b8:=mG4 O cc;have cx:Dv cn (mEt j) U:=Xa cl cp cq cr;have cont:∀(cy:Hv)(bq:Hp)(cz:Bj)(c2:bH)(c3:mY GE),Eu t X κ n o H ac D j (j+1) bq cz c2 c3->(∀g∈c3,H g.x=none/\H g.so=none)->Dv bq (mEt j) U->(∃g∈c3,g.k=mEt j)->
    (∀b9 c4,Eu t X κ n o H ac D (j+1) (j+1) b9 cz c2 c4->(∀g∈c4,H g.x=none/\H g.so=none)->cy.nx aWO b9)->
    OC (OL t.CH "add_sort" (Afb t) [] E0 (Zq (Bo 2) (Bo 6)) (DY (mD2 3 "words") E5)) cy aWO bq:=by
    rintro cy bq cz c2 c3 c5 c6 c7 ⟨g,hg,c8⟩ hk;have Y:=c5.ge g hg;obtain⟨c9,da,db⟩:=ApF (Y.k.symm.trans c8);have bv:g.ms.length<=64:=(by have:=Y.len;have:=Y.le;have:=ok.sl;omega);refine(16,D,mF g.x,2,.inr (gD c3,_,U,mH c5.d,2,c7,by rw[<-c8];exact(ApJ c5.nd hg).symm),g.x,g.dx,0,Y.x,30,131,mC c5.fs.st a0,47,T.RM,2,g.x,119,g.G.Bl,g.W,M,iv g.ms,2,Y.x,Y.so,fU,(λe=>by have:=Y.x;rw[e,Y.so] at this;cases this),5);obtain⟨c4,a1,a2⟩:=c5.add hg a6 (Afl a6 ax ok.Ol) ax c9.symm da.symm db.symm (c6 g hg).1 (c6 g hg).2;refine hk _ c4 a1 λz hz=>?_;obtain⟨y,hy,b1,dc⟩:=a2 z hz;rw[b1,dc];exact c6 y hy
   refine(16,D,0,mI (lX,_,U,mH co.d,2,cx,2),0,5)
   cases dd:Bc lX (mEt j) with
   |some v=>
    refine cD;obtain⟨g,hg,db,de⟩:=ApH dd;exact cont _ cn b d f (co.As aF iA (λi df dg _=>by omega)) aw cx (mO g hg db) λdh di bw bx=>(19,_,b,d,di,2,bw,bx)
   |none=>
    refine eD;refine(0,131,nP ck ch a0,47,T.RL,2,22,co.fs.f,30,X,b,n,d,R,b7,b8,19,3,ok,co.fs,cp,cs,cq,ct,cr,cu,SW b5,SW b6,mG5 b5,mG5 b6,λL fl dj dh dk dm dn dp dq dr ds c0 c1 _=>?_);have dt:=co.Xb dm dn;have du:=(dn.free cl (mG4 cg cj)).1;have dv:=(dn.free cp cs).1;have dw:Cz dh b7 (rQ j 0).1 (rQ j 0).2:=(dn.free cq ct).1;have dy:Cz dh b8 (rQ j 1).1 (rQ j 1).2:=(dn.free cr cu).1;refine λx dx hx dz d0=>(x,dx,L,lW.Bl,190,λso d1 d2=>?_);obtain⟨o',d3⟩:=dt.new dd hx dz d0 d1 d2 ap dq dr ds c0 c1;have d4:nA dh so:=by
     rw[Ah d1] at d2;by_cases e:so=dx
     .subst e;exact dz
     rwa[Ah e] at d2
    have keep:∀c v,dh c=bJ ->(mPD x) c=some v:=λc v e=>by rw[nZ hx,nZ d4,nZ hx,nZ dz];exact e
    refine(178,D,0,.inr (lX,_,U,mC keep dt.d,2,mPE mC keep,BA (by have:=dt.len;have:=ok.sl;rw[gD,ArX];omega),2),5);rw[MJ _ dd];have d5:∀c v,dh c=bJ ->v≠ .dT lX ->(Aa (mPD x) D (.dT (lX++[(mEt j,cS,)]))) c=some v:=λc v e bc=>by rw[Ah ((λc v e bc z=>by rw[z,dt.d] at e;exact bc aAm.symm) c v e bc)];exact keep c v e
    refine cont _ _ o' dk _ d3 aAa (mPE mCz d5) (_,rV (Atb.mpr rfl),2) λd6 d7 bw bx=>(19,_,o',dk,d7,2,bw,bx);rcases oS hz with hz|hz
    .exact aw z hz
    obtain rfl:=zZ hz;exact(dt.gw.none hx,dt.gw.none d4)
  rw[mS bc];exact Az (19,_,b,d,f,2,C.As iA iA (λi df dg _=>(show i=j by omega)▸bc),aw)
 rintro σ as ⟨au,v4,v6,b,d,f,rfl,C,aw⟩;rw[ArX,ag] at C;refine(D,_,C.d,85,λod=>(0,D,od,lX,190,λR bs=>?_));have d8:R≠D:=λe=>(mPC Af);have d9:nA as R:=(by rwa[Ah d8] at bs);have ea:∀g∈f,g.x≠D/\g.fo≠D/\g.x≠R/\g.fo≠R:=λg hg=>by have Y:=C.ge g hg;exact((λe=>by have:=Y.x;rw[e,C.d] at this;cases this),(λe=>by have:=Y.fo;rw[e,C.d] at this;cases this),(λe=>by have:=Y.x;rw[e,d9] at this;cases this),(λe=>by have:=Y.fo;rw[e,d9] at this;cases this))
 have eb:tO gD f f.length:=(pW gD ArX);refine EA (J:=SJ D od lX) f.length (λi N=>(∀c,c≠R->N c=(Aa as D (mKF lX)) c)/\N R=nV (((wZ i).filter λg=> !g.G.fl.isEmpty).map λg=>nC g.x))
  (λc hc=>gW,23) (λi N av pi=>(100,by rw[eb];exact av)) (λN pi=>(100,by rw[eb];exact aF)) ?_ ?_
 .rintro i N y bi av ⟨I,ec⟩ ⟨rfl,ky,cx⟩;have ed:pC f[i]? f[i]:=mJ av;obtain rfl:y= .ref f[i].x:=by
   rw[gD,ArY,ed] at cx;have:=Ase cx;injection this with _ this
   exact this.symm
  have Y:=uT C.ge av;obtain⟨n1,n2,n3,n4⟩:=uT ea av;have hx:bi f[i].x=some (.Ag t.CH f[i].dx (Ft f[i].G.Bl f[i].fo f[i].so f[i].W)):=(by rw[I _ n3,Ah n1];exact Y.x);have ee:sS wZ=wZ i++[f[i]]:=(yM AsA ed);refine(30,f[i].x,_,f[i].dx,3,hx,65,T.Vm,2,_,mDX (by rw[I _ n4,Ah n2];exact Y.fo),5);have ef:(FB f[i].G.fl).isEmpty=f[i].G.fl.isEmpty:=(by cases f[i].G.fl<;>rfl);rw[ef]
  cases eg:f[i].G.fl.isEmpty with
  |true=>
   refine Az (oH I);rw[ec,ee,Ath];simp[eg]
  |false=>
   refine Au (0,_,ec,BA ?_,λc hc=>by rw[gW];exact I c hc,5)
   .have:=Aun (λg:GE=> !g.G.fl.isEmpty) (wZ i);have dg:mBq wZ i f.length:=(qT AsS);have:=C.len;have:=ok.sl;rw[ArX];omega
   rw[Af,ee,Ath];simp[eg]
 rintro N ⟨I,ec⟩;refine(by rw[I D (Asr d8)];exact Af,5);have eh:Ab as (Aa N D (.dT lX)):=λc v e=>by
  by_cases hc:c=D
  .subst hc;rw[Af,<-C.d];exact e
  rw[gW,I c (λz=>by rw[z,d9] at e;cases e),gW];exact e
 rw[AsC] at ec;obtain⟨o',ei,g',ej⟩:=(C.same eh).done ok kb (ga:=R) (oN d8 ec) (C.fs.un _ d9) aw;exact k R o' _ d ei g' ej
theorem AO.step(h:pU g)(e:iK)(i:∀b,B b->b=X.F\/∃κ,Rg g κ b)
 (f:H' X.F=mB (mCt n')) (d:H' X.D=vR g) (nn:n'<=300000) (un:mCy H' o') (kn:∀κ a,tK g->B a->a≠X.F->Kn t H' o' X.E (Rg g) n' κ a) (j:∀κ a,tK g->¬B a->n<=n'):
 AO t X H' o' n' g/\Gw X.F o H g o' H' g:=by
 refine((f,vT e.own h.f h.of,d,vT e.own h.d h.od,nn,h.nd,h.Dt e,λc u z=>(e.own c u (h.st c u z)).trans (h.so c u z),un,eH),e.As λx hx=>?_,jO,λ_ _ z=> mH z)
 .obtain⟨κ,a,rfl,ne,k⟩:=aAR;refine(179,ne,5);by_cases hb:B a
  .exact kn κ a hq hb ne
  exact k.ev e hb jO (j κ a hq hb)
 rcases oY i with z|z
 .exact mH z
 exact mBm z
theorem Kn.inj(h:pU i)(r:tK i)(j:Rg i q a):κ=q:=by
 obtain⟨_,dx,s,AA,g,u,v,k⟩:=aFd;obtain⟨_,y,z,B,g',C,aa,k'⟩:=Kn.FA h j;have e:=Ase (k.at_.symm.trans k'.at_);injection e with _ _ e
 injection e with I e
 injection e with J e
 injection I with _ I
 injection J with _ J
 injection I with I
 injection J with J
 have L:=k.st;rw[J,k'.st] at L;have M:=Ase L;injection M with M
 injection M with O h4
 injection h4 with h4 _
 injection O with O
 injection h4 with h4
 obtain⟨m,w,p⟩:=κ;obtain⟨ab,Q,U⟩:=q;have a1:=AtA I;have a2:Q=w:=AtA O;have Y:p=U:=by have:=(Eb p p).mpr rfl;rw[<-(AtA h4),Eb] at this;exact this
 subst a1 a2 Y;rfl
theorem Ev.SX(hc:H c=bJ)(g:o c=mB (b,x,))(hb:B b):Ev B o H o aB5:=
 (λd w e n=>by
  have:d≠c:=λz=>(by subst z;exact n _ g hb);rw[aDr];exact e,aDo,λd w e=>by
  by_cases z:d=c
  .subst z;exact(u,Af)
  exact(mKq w z e))
theorem JD{o:Bj}(h:mCy H o):∀d,(aB5) d=none->o d=none:=λd e=>by rw[mKG Af] at e;exact h d e
theorem AO.ApM(h:pU i)(r:tK i)(k:J9 t H o X.E (Rg i) n κ a dx j AA g s y)(hg:mKo X.E (Rg i)):
 AO t X (mG6 a) o n i/\Gw X.F o H i o (mG6 a) i:=by
 have ne:=(aFd).1;obtain⟨fs,f1,f2,B⟩:=k.fin;obtain⟨ls,C,I,J⟩:=k.HM;have L:X.D≠a:=λz=>(by have:=h.d;rw[z,k.at_] at this;cases this);have M:Ev (λb=>b=a) o H o (mG6 a):=Ev.SX k.at_ k.oa rfl;have O:s≠a:=λz=>(by rw[z,k.at_] at f1;cases f1);have nl:y≠a:=λz=>(by rw[z,k.at_] at C;cases C);refine h.step M (λb hb=> mI (κ,hb▸r)) (wL ne h.f) (oN L h.d) h.nn (JD h.un) (λaa Q U hb _=>?_) (λ_ _ _ _=>aF);subst hb;obtain rfl:=Kn.inj h r U;have fr:mG7 (mG6 Q):=λc u e ab=>(M.free e ab).1;refine(dx,j,AA,mF ga,s,y,Af,k.oa,k.IS,k.IT,mV fr k.st k.He,k.He,k.kb,k.AA,(fs,by rw[Ah O];exact f1,f2,dY),(ls,by rw[Ah nl];exact C,I,eH),mI (ga,2,hg.ev M jO))
 .obtain⟨v,a1,a2,Y⟩:=oY B;exact aWP
 obtain⟨W,l,ac,ol,ns,n1,n2,n3⟩:=rD J;have:l≠Q:=λz=>(by rw[z,k.at_] at n1;cases n1);refine(W,l,ac,ol,ns,by rw[aDr];exact n1,n2,dY);obtain⟨v,a1,a2,Y⟩:=oY n3;exact aWP
def ApN(t:Aw):Sp:=λvs H Q _=>∃(X:Fw)(o:Bj)(n:Nat)(b:bH)(κ:Kt)(a:Addr),vs=[kP,aI]/\ eK /\pU b/\tK b/\
 ∀ga o' H' c,mCw c->zX b c->mPA c->sQ ga
theorem ApO:AD aBF aBF (A0 Aax):=aG
theorem ApP(T:aD):A4 P w K mg base A9 6 t.Nd t.AbJ aBF (ApN t):=by
 refine vL T.Nd.F.ok ApO
 .obtain⟨X,o,n,d,κ,a,rfl,_⟩:=h;rfl
 obtain⟨X,o,n,d,κ,a,rfl,ok,fs,rg,k⟩:=h;obtain⟨ne,e,f,AA,g,i,j,kn⟩:=mEs rg;refine(_,(Ak (nG (mAU cJ) (Ao (AX aQ (Bx aL T.B_.c T.Nf.h (ApL T) eE T.Nf.b .nil Ay dU) rfl)))
  (oL cJ)),5)
 refine(mPF a e T.Pd);rcases kn.Oi with rfl|⟨ga,rfl,hg⟩
 .rw[mU rfl];refine Au (22,fs.f,30,X,o,n,d,179,ok,fs,rg,λga o' H' l m g' p=>?_);obtain⟨ne',q,r,u,v,x,y,C⟩:=Kn.FA m aOm;obtain⟨f2,g2⟩:=m.ApM aOm C p;obtain⟨_,D,G,I,J,L,M,N⟩:=Kn.FA f2 aOm;refine(77,_,3,C.at_,45,T.Pd,(qZ 6),77,_,q,3,Af,45,T.Pd,2,5);exact k ga o' _ l f2 (g'.trans g2) (p.ev (B:=Bg X.F H' l) g2.ev jO)
 rw[mS aDt];refine Az (77,_,e,111,T.Pd,2,k ga o H d fs Gw.refl hg)
theorem AO.Xc(h:aFm)(i:aIX)(r:aDq)(k:mG8 H)
 (j:o z=mB (a,y,)) (s:a≠z) (hk:∀c u,H c=aM ->c≠X.F->c≠z-> eJ=aM) (hz:∃u',H' z=mB u') (B:aWu) (hf:H' X.F=mB aIY) (un:mCy H' o')
 (f1:PL t H' o' (n+1) fa) (C:PM t H' o' X.E κ a (n+1) la):mPG H'/\Gw X.F o H kvs o' H' kvs:=by
 have ne:=(aFd).1;have I:Ev (λb=>b=X.F\/b=a) o H o' H':=(λc u e nb=>hk c u e (λq=>by subst q;exact nb _ h.of aZ) (λq=>by subst q;exact nb _ j dZ),B,λc u e=>by
  by_cases J:c=X.F
  .subst J;exact(qU hf)
  by_cases L:c=z
  .subst L;exact hz
  exact(u,hk c u e J L))
 refine h.step I (λb hb=>hb.elim .inl λq=> mI (κ,q▸r)) hf (mPH h.d (λe=>by have:=h.od;rw[e,j] at this;injection this with this;injection this with this;exact ne this)) aA un (λM O Q hb hF=>?_) (λ_ _ _ _=>iA);obtain rfl:O=a:=hb.resolve_left hF;obtain rfl:=Kn.inj h r Q;obtain⟨_,f2,_⟩:=k.fin;obtain⟨_,U,_⟩:=k.HM;refine(dx,sta,AA,g,fa,la,hk _ _ k.at_ ne s,vT B k.at_ k.oa,vT B f2 k.IS,vT B U k.IT,(aWQ).1,(aWQ).2,k.kb,k.AA,f1,C,5);rcases k.Oi with g|⟨ga,g1,g2⟩
 .exact mH g
 exact mI (ga,g1,g2.ev I jO)
section
variable {X:Fw} {H:Hp} {o:Bj} {n:Nat} {kvs:bH} {κ:Kt} {a dx sta AA fa la x:Addr} {g:V} {v:Ed}
theorem AO.ApQ(h:aFm)(i:aIX)(r:aDq)(k:mG8 H)(hx:iJ)(j:nA o x)(s:oO v.fin)(z:H fa=nV fs):
 AO t X aIZ o (n+1) kvs/\Gw X.F o H kvs o aIZ kvs:=by
 have B:fa≠X.F:=λe=>(mGZ h.f e z);have hk:mKH fa (aIZ):=λc u e C I=>(by rw[Ah I,Ah C];exact e);have fr:mG7 (aIZ):=λc u e C=>mPI k.IS;obtain⟨J,L,M,e3⟩:=k.fin;obtain⟨ls,O,aa,Q⟩:=k.HM;obtain rfl:fs=J.map V.ref:=(by rw[z] at L;injection Ase L);have ab:∀y v,tI H y->o y=none->Cd t (Aa aOn fa (.Ac (nF J.map++[cS]))) y v:=λy v (d,q) U=>(mKI U);refine h.Xc i r k k.IS (λe=>by have:=k.at_;rw[e,z] at this;cases this) hk (qU Af) aDo (mD9 nQ B) (oA JD h.un) (J++[x],23,41,hQ) (ls,hk _ _ O (λe=>by have:=h.f;rw[<-e,O] at this;cases this) (λe=>by rw[e,z] at O;cases O),4,eH)
 .grind
 obtain⟨W,l,Y,ol,ns,n1,n2,n3⟩:=rD Q;refine(W,l,Y,ol,ns,mPJ k.IS,4,hQ);grind
theorem AO.ApR(h:aFm)(aa:aIX)(r:aDq)(k:mG8 H)(hx:iJ)(ab:nA o x)(ac:aOo)(i:H la=rK ls)(j:nA aOn s)(ae:xN ls jN):
 ∃o',mPG aWR/\Gw X.F o H kvs o' aWR kvs:=by
 rw[MJ _ ae];have z:s≠X.F:=λe=>aN1;have B:nA H s:=(by rwa[Ah z] at j);have hk:mKH la (aB9):=λc u e C I=>(by rw[nZ B,Ah I,nZ B,Ah C];exact e);have fr:mG7 (aB9):=λc u e C=>mPI k.IT;have J:(aB9) la=some (.dK (ls++[(jN,mF s,)])):=(mA8 (λe=>by rw[e,B] at i;cases i));have L:sL (aB9) s [cS]:=Af;have M:oB (aB9) X.F aIY:=(by rw[nQ z,mKJ nQ h.f i,nQ z,Af]);have O:∀c,(aB9) c=none->c≠s/\H c=none:=λc e=>by have C:c≠s:=λq=>aI0;rw[Ah C] at e;have I:c≠la:=λq=>aI0;rw[Ah I,Ah C] at e;rw[aWS] at e;exact(C,e)
 generalize aB9=H' at hk fr J L M O;have Q:∀c u,H c=aM ->Ci o s aOp c=o c:=λc u e=>mCu B;have af:∀y v',Cd t H y v'->o y=none->Cd t H' y v'/\Ci o s aOp y=none:=λy v' (d,q) U=>((mKI U),vT Q q U);obtain⟨ag,Y,ah,e3⟩:=k.fin;obtain⟨ai,aj,ak,am⟩:=k.HM;obtain rfl:ai=ls:=(by rw[i] at aj;injection (Ase aj).symm);refine(Ci o s aOp,h.Xc aa r k k.IT (λe=>by have:=k.at_;rw[e,i] at this;cases this) hk (qU J) Q M (λc e=>by rw[Cj (O c e).1];exact h.un c (O c e).2) (ag,hk _ _ Y (λe=>by have:=h.f;rw[<-e,Y] at this;cases this) (λe=>by rw[e,i] at Y;cases Y),4,hQ) (_,J,41,eH))
 .grind
 rcases oS hq with hq|hq
 .obtain⟨W,l,an,ol,ns,n1,n2,n3⟩:=rD am;refine(W,l,an,vT Q n1 ol,ns,mPJ k.IT,4,hQ);grind
 obtain rfl:=zZ hq;refine(v.W,s,2,IU,[x],L,9,hQ);grind
theorem AO.ApS(h:aFm)(aa:aIX)(r:aDq)(k:mG8 H)(hx:iJ)(ab:nA o x)(ac:aOo)(i:H la=rK ls)(j:nA aOn s)(ae:Bc ls jN=mG l)(z:H l=nV ys):
 AO t X (mEu l aN2) o (n+1) kvs/\Gw X.F o H kvs o (mEu l aN2) kvs:=by
 obtain⟨af,B,ag,e3⟩:=k.fin;obtain⟨ah,C,ai,I⟩:=k.HM;obtain rfl:ah=ls:=(by rw[i] at C;injection (Ase C).symm);obtain⟨aj,ak,J,ol,ns,n1,n2,n3⟩:=I _ (Mq ae);injection J with J L
 injection L with L
 subst L;have am:v.W=aj:=by
  injection J with J
  exact AtA J
 subst am;obtain rfl:ys=ns.map V.ref:=(by rw[z] at n1;injection Ase n1);have M:s≠X.F:=λe=>aN1;have hk:mKH l (mEv x):=λc u e O an=>(by rw[Ah an,nZ (by rwa[Ah M] at j),Ah O];exact e);have fr:mG7 (mEv x):=λc u e O=>hk c u e (λq=>by rw[q,h.of] at O;cases O) (λq=>by rw[q,ol] at O;cases O);have Q:oB (mEv x) l (mAL (ns++[x]).map):=(pD Af);have ao:(mEv x) X.F=some aIY:=(by rw[mPK nQ h.of,nQ M,Af]);have ap:=JD (c:=l) (u:= .Ac (nF ns.map++[cS])) (JD (c:=s) (u:= aEI) (JD (c:=X.F) (u:= aIY) h.un));generalize (mEv x)=H' at hk fr Q ao ap;have aq:∀y v',Cd t H y v'->o y=none->Cd t H' y v':=λy v' (d,q) ar=>(mKI ar);refine h.Xc aa r k ol (λe=>by have:=k.at_;rw[e,z] at this;cases this) hk (qU Q) aDo ao ap (af,mPL B k.IS,4,hQ) (_,mPL i k.IT,4,eH)
 .grind
 obtain⟨as,U,au,Y,av,aw,ax,ay⟩:=rD I;by_cases e:U=l
 .subst e;have:as=v.W:=by rw[ol] at Y;injection Y with Y;injection Y with _ Y;exact(Ase Y).symm
  subst this;refine(_,U,au,ol,ns++[x],Q,41,hQ);grind
 refine(as,U,au,Y,av,hk _ _ aw (λe=>by rw[e,h.of] at Y;cases Y) e,4,hQ);grind
end
theorem nodup_getElem?{l:cL}(h:l.Nodup){i j:Nat}{x:α}(c:l[i]? =aY)(d:l[j]? =aY):i=j:=by obtain⟨a,e⟩:=nS c;obtain⟨b,f⟩:=nS d;exact(List.getElem_inj h).mp (e.trans f.symm)
def ApT(t:Aw):Sp:=λvs H Q _=>∃(X:Fw)(o:Bj)(n:Nat)(b:bH)(κ:Kt)(a x:Addr)(v:Ed),vs=[kP,aI,cS]/\pU b/\tK b/\ iJ /\o x=none/\(v.fin=true\/ aOo)/\
 ∀n' o' H',mEw X b->Gw X.F o H b o' H' b-> cU
theorem Afo:AD ["self","knot","note","other"] aL4 (A0 Aat):=aG
theorem ApU(T:aD):A4 P w K mg base A9 2 t.Na t.AbG aL4 (ApT t):=by
 refine oW T.Na.F.ok Afo
 .obtain⟨X,o,n,f,κ,a,x,v,rfl,_⟩:=h;rfl
 obtain⟨X,o,n,f,κ,a,x,v,rfl,fs,rg,hx,ac,ae,k⟩:=h;obtain⟨af,ag,ah⟩:=T.Akl;refine(_,(Ak (AU (pB QN aX (nT ag ah)) (Ak aAT
  (Ao (Rp (rJ (AeS aX) (oC 3 Afo.nd) (Ao (Cu (GY bF T.CN.c T.MX.h (Apo T) bR T.MX.b .nil Ay))))))) AY)
  (Ak aM7
  (Ao (Cu (Bx aQ T.CN.c T.MW.h (Apq T) bR T.MW.b .nil Ay kH))))),5)
 have cont:∀(ai:bO)(n1:Nat)(aj:Bj)(H1:Hp),n1<300000->AO t X H1 aj n1 f->Gw X.F o H f aj H1 f->EL (M9 K (Bo 0) aAF (DO λa b=>mQ (a+b)) "kept") (OC (OL t.BD "keep_note" (Afc t) [] E0 (Bo 1) aMv)) {nx:=λ_ H'=>cU,rt:=Q} aWT H1:=by
  intro ai n1 aj H1 ak f1 g1;have al:=mC g1.rg rg;obtain⟨am,an⟩:=hx.ev g1.ev ac;obtain⟨ne,m,p,AA,C,ao,ap,kn⟩:=Kn.FA f1 al;obtain⟨fl,c1,aq,ar⟩:=id kn.fin;obtain⟨ls,as,au,av⟩:=id kn.HM;have aw:Cd t aFn x v:=by obtain⟨dx,q⟩:=am;exact(mKq dx (λe=>by rw[e,f1.of] at an;cases an) q)
  refine(0,27,f1.f,46,T.RF,2,8,X.dF,_,f1.f,aDc,77,m,0,75,30,a,m,p,ao,ap,x,κ,AA,C,v,_,ls,2,75,aw,(show(aFn) ao=_ by rw[mKJ Ah f1.f c1];exact c1),fU,(show(aFn) ap=_ by rw[mKJ Ah f1.f as];exact as),aBI,λax=>?_,λax ay az=>?_)
  .obtain⟨f2,g2⟩:=f1.ApQ ak al kn am an ax c1;exact aOq
  have a0:Og X.E κ v:=ae.resolve_left (by rw[ax];decide)
  cases a3:Bc ls jN with
  |none=>
   obtain⟨a4,f2,g2⟩:=f1.ApR ak al kn am an a0 as az a3;exact mH (2,aOq)
  |some l=>
   obtain⟨a5,a6,a7,ol,ns,a8,a9,ba⟩:=av _ (Mq a3);injection a7 with a7 bb
   subst bb;obtain⟨f2,g2⟩:=f1.ApS ak al kn am an a0 as az a3 a8;exact .inr (a6,0,by rw[mPK Ah f1.of];exact a8,fU,aOq)
 refine(0,27,fs.f,46,T.RF,2,55);by_cases bc:(300000:Int)<=(n:Int)
 .rw[mU bc];refine eD;refine(0,X.F,_,X.dF,0,fs.f,46,T.RF,aDc,5);have bd:X.D≠X.F:=λe=>(mGZ fs.f e fs.d);refine(X.D,.dT f,by rw[Ah bd];exact fs.d,167);have be:oB (aDu) X.F (mCt 0):=(mD9 nQ bd);have bf:oB (aDu) X.D (mKF f):=Af;have bg:Ev aWU o H o aDu:=(Ev.SX fs.f fs.of aZ).trans (Ev.SX (oN bd fs.d) fs.od aZ);have bh:mCy (aDu) o:=oA JD fs.un;have bi:∀κ a,tK f->(aDu) a=H a:=λκ a r=>by
   obtain⟨ne,m,p,AA,C,ao,ap,kn⟩:=mEs r;rw[mCx Ah kn.at_ fs.d,Ah ne]
  show M7 _ _ _ _ _ aDu;generalize Aa (mCA H 0) X.D (mKF f)=bj at be bf bg bh bi;refine(0,27,be,46,T.NC,2,X.D,od,f,2,bf,5);refine Fn (J:=SJ X.D od f) f.length (λi σ D=>∃(ai:bO)(G:Bj),σ=aWT /\D X.F=mB (mCt 0)/\D X.D=sW od (.dT f)/\Ev aWU o H G D/\(mCy D G)/\∀(j:Nat)κ a,f[j]? =mB (eW,aI,)->(j<i->Kn t D G X.E (Rg f) 0 κ a)/\(i<=j->D a=H a))
   (58,o,2,be,bf,bg,bh,λj κ a e=>(kS,λ_=>bi κ a (Asl e))) (λi σ D bk (_,_,_,_,d,_)=>(d,bk)) (λσ D (_,_,_,_,d,_)=>(d,aF)) ?_ ?_
  .rintro i σ D y I bk ⟨ai,G,rfl,bl,bm,L,bn,bo⟩ ⟨rfl,ky,bp⟩;obtain⟨M,a1,bq,ne1,br⟩:=fs.kn _ (Asl bp);injection bq with bq N
   subst bq N;have bs:Rg f M a1:=Asl bp;obtain⟨m,p,AA,C,ao,ap,kn⟩:=br;have bt:I a1=some (mPM ao ap):=(wG (bo i M a1 bp).2 aF kn.at_);refine(0,a1,m,0,bt,2,a1,m,p,ao,ap,M,AA,C,2,bt,λO U n1 n2 n3 bu bv=>?_);have bw:mPN I a1 aDv:=λc u e hc=>(by rw[gW,nZ bv,nZ bu];exact e);have b1:(aDv) a1=some (mPM O U):=Af;have bx:sL (aDv) O []:=(by rw[Ah n1,Ah n3,Af]);have bz:oB (aDv) U jE:=(mA8 n2);have b0:∀c,(aDv) c=none->I c=none/\c≠O/\c≠U:=λc e=>by rw[aWS] at e;have b2:c≠U:=λq=>aI0;rw[Ah b2] at e;have b3:c≠O:=λq=>aI0;rw[Ah b3] at e;exact(mO e b3 b2)
   generalize aDv=b4 at bw b1 bx bz b0;have b5:G a1=some (a1,none,):=(mC L.own kn.at_).trans kn.oa;have b6:∀c u,I c=aM ->Ci aWV U (sR a1) c=G c:=λc u e=>(by rw[mCu bv,mCu bu]);have b7:Ev (λb=>b=a1) G I (Ci aWV U (sR a1)) b4:=(λc u e nb=>uX bw (λq=>by subst q;exact nb _ b5 rfl),b6,λc u e=>by
    by_cases q:c=a1
    .subst q;exact(qU b1)
    exact(u,uX bw q))
   refine(3,mV bw bl (Asr ne1),bw _ _ bm (λe=>by rw[e,bt] at bm;cases bm),L.trans (b7.As λb hb=> mI (M,hb▸bs)),λc e=>by rw[Cj (b0 c e).2.2,Cj (b0 c e).2.1];exact bn c (b0 c e).1,λj Y a2 N=>?_);have b8:Rg f Y a2:=Asl N;by_cases b9:j=i
   .subst b9;rw[bp] at N;have e3:=Ase N;injection e3 with e3 ca
    injection ca with ca
    obtain rfl:=Afe e3;subst ca;refine(λ_=>(m,p,AA,C,O,U,b1,vT b6 bt b5,5,IU,5,5,kn.kb,kn.AA,(mGX bx),(mGX bz),5),kS)
    .rw[Cj n3,IU]
    .exact(aWW).1
    .exact(aWW).2
    rcases kn.Oi with g|⟨ga,g1,g2⟩
    .exact mH g
    exact mI (ga,g1,(g2.ev L jO).ev b7 jO)
   have ne2:a2≠a1:=λq=>by subst q;obtain rfl:=Kn.inj fs bs b8;exact b9 (mKK fs.nd (yM ArY N) (yM ArY bp))
   refine(λh=>((bo j Y a2 N).1 aA).ev b7 ne2 jO aF,λh=>?_);have:=(bo j Y a2 N).2 aA;obtain⟨_,cb,cc,cd,ce,cf,cg,ch⟩:=mEs b8;rw[ch.at_] at this⊢;exact mV bw this ne2
  rintro σ D ⟨ai,G,rfl,bl,bm,L,bn,bo⟩;refine(oH bm);have cj:Ev (λb=>b=X.F) G D G (mG9 D f):=Ev.SX bm (vT L.own fs.d fs.od) rfl;have ch:∀Y a2,Rg f Y a2->(a2=X.F\/∃κ,Rg f κ a2)->a2≠X.F->Kn t (mG9 D f) G X.E (Rg f) 0 Y a2:=λY a2 b8 _ hF=>by obtain⟨j,hj,e⟩:=Asy b8;exact((bo j Y a2 aBL).1 hj).ev cj hF jO aF
  obtain⟨f2,g2⟩:=fs.step (H':=mG9 D f) (o':=G) (n':=0) (B:=λb=>b=X.F\/∃κ,Rg f κ b) (L.trans (cj.As λb hb=> mH hb)) (mAu hb) (wL bd bl) Af aA (JD bn) ch (λY a2 b8 hb=>nL (xC Y b8) hb);exact cont ai 0 G _ aA f2 g2
 rw[mS bc];exact Az (cont _ n o H aA fs Gw.refl)
def Bv(u:bD):Nat->Nat
 |0=>0
 |n+1=>pJ u+u n
theorem Xd:∀{n:Nat},i<n->pJ aDj=pJ u+1
 |0,h=>by omega
 |n+1,h=>by
  show pJ aDj+DS u i n=pJ u+u n+1;by_cases e:i=n
  .subst e;have:∀m,m<=i->Bv aDj m=Bv u m:=by
    intro m
    induction m with
    |zero=>intro _;rfl
    |succ m a=>
     intro hm;show Bv aDj m+DS u i m=Bv u m+u m;rw[a aA];unfold DS;rw[fF]
   rw[this i aF];unfold DS;rw[bE];omega
  rw[Xd aA];unfold DS;rw[aLs];omega
theorem Afp(h:S.length<=i):cE.n=0:=by unfold AH;grind
theorem Afq(h:aBZ)(hx:nI W.testBit x):∃i,i<S.length/\ dH <=x/\x<dH+l i:=by
 obtain⟨i,a,b⟩:=(h.Dg x).mp hx;refine(i,5,a,b);rcases Atq i S.length with q|q
 .exact q
 have:=h.le i;rw[Afp q] at this;omega
theorem ApV(h:aBZ)(a:aOg <=64):W<2 ^ 64:=by
 apply Atn;intro x hx
 cases hb:W.testBit x with
 |false=>rfl
 |true=>
  obtain⟨i,h0,b,c⟩:=Afq h hb;have:=h.le i;have d:=mGy i S.length h0;have h4:mJ0 i:=rfl;omega
theorem ApW(h:aBZ)(hp:SO W d):d.length<=Bv l S.length:=by
 have key:∀n,∃L:aB,L.length=pJ l/\∀i x,i<n-> dH <=x->x<dH+l i->x∈L:=by
  intro n
  induction n with
  |zero=>exact([],2,λi x f=>by omega)
  |succ n g=>
   obtain⟨L,j,k⟩:=g;refine(L++(oP (l n)).map (Bu S n+·),by rw[Asi,ArX,As4,j];rfl,λi x f a b=>?_);by_cases e:i=n
   .subst e;exact rV (Asx.mpr (x - dH,by rw[Atj];omega,by show dH+(x - dH)=x;omega))
   grind
 obtain⟨L,j,k⟩:=key S.length;rw[<-j];refine Oj hp.1 λx hx=>?_;obtain⟨i,a,b,c⟩:=Afq h ((hp.2 x).mp hx);exact k i x a b c
structure ED(E:FE)(C:aB0)(u:bD)(rest:Nat)(room:Int)(v:Ed):Prop where
 fin:v.fin=false
 ex:∃l,Dl E.S v.W l/\Lk E.S C l v.r v.c/\∀i,l i<=u i
 r:(rest:Int)<=v.r
 c:room<=v.c
def Ans(E:FE)(C:aB0)(used:Nat)(u:bD)(rest:Nat)(room:Int)(v:Ed):Prop:=(v.fin=true/\v.W&&&used=0/\(rest=0->C []/\0<=room))\/yD E C v
section
variable {E:FE} {C D:aB0} {u:bD} {rest:Nat} {room:Int} {v v':Ed}
theorem ED.imp(h:yD E C v)(g:∀q,D q->C q):ED E D u rest room v:=
 (h.fin,let(l,a,b,c):=h.ex;(l,a,Ae2 b g,c),h.r,h.c)
theorem ED.join(h:yD E C v)(h':yD E D v'):ED E aVq u rest room aWX:=by
 obtain⟨l,a,b,c⟩:=h.ex;obtain⟨g,j,s,y⟩:=h'.ex;refine(2,(_,AnM a j,5,λi=>by have:=c i;have:=y i;show max (l i) (g i)<=u i;omega),5,5)
 .rw[SQ,SQ];exact AnR b s
 .show _<=Hd _ _;rw[SQ];have:=h.r;have:=h'.r;omega
 show _<=Hd _ _;rw[SQ];have:=h.c;have:=h'.c;omega
theorem ED.plain(g:zK rest)(i:zK room):ED E (λ_=>False) u rest room (mCs 0):=
 (2,(_,S6 E.S,AnQ,λ_=>aR),54,i)
theorem ED.ApX(h:yD E (D6 E κ) v):Og E κ v:=(h.fin,let(l,a,b,_):=h.ex;(l,a,b))
end
def NQ(t:Aw)(X:Fw)(o:Bj)(H:Hp)(a:bH)(C:aB0)(used:Nat)(u:bD)(rest:Nat)(room:Int)(Q:VK):Prop:=
 ∀x v n' o' H' b,mEw X b->zX a b->tI H' x->o' x=none->mKL C->sQ x
def PV(t:Aw)(r:Nat):Sp:=λvs H Q _=>∃(X:Fw)(o:Bj)(n:Nat)(b:bH)(κ:Kt)(a:Addr)(rest used:Nat)(u:bD)(room:Int),vs=aWY /\ eK /\pU b/\tK b/\ aI1 /\rest<=r/\rest+aI2 <=14/\room<=1000/\
 NQ t X o H b aI3 used u rest room Q
def Xe(t:Aw)(r:Nat):Sp:=λvs H Q _=>∃(X:Fw)(o:Bj)(n:Nat)(b:bH)(κ:Kt)(a:Addr)(rest used:Nat)(u:bD)(room:Int),vs=aWY /\ eK /\pU b/\tK b/\ aI1 /\1<=rest/\rest<=r/\rest+aI2 <=14/\room<=1000/\¬D6 X.E κ []/\
 NQ t X o H b aI3 used u rest room Q
def GC(E:FE)(G:J8)(p:Kt):aB0:=λq=>∃i a,q=i::a/\i∈G.ss/\D6 E p a
def Afr(t:Aw)(r:Nat):Sp:=λvs H Q _=>∃(X:Fw)(o:Bj)(n:Nat)(a:bH)(x:Addr)(G:J8)(p:aDp)(rest used:Nat)(u:bD)(room:Int),vs=[kP,cS,mF p.2,mA9 mE,tJ mE,aDw]/\ eK /\pU a/\PN t H o X.E (Rg a) x G/\(∀i∈G.ss,i<X.E.S.length/\ lV.Bl=G.Bl)/\p∈G.fl/\ aI1 /\1<=rest/\rest<=r/\rest+aI2 <=14/\room<=1000/\
 NQ t X o H a (GC X.E G p.1) used u rest room Q
theorem Afs(a b:Nat):Ch a b<=a:=by rw[<-S1];exact Nat.sub_le _ _
theorem and_zero:a&&&b=0↔∀i,aAd=true->pM i=false:=by
 constructor
 .intro h i c;have:=AtB (λx=>x.testBit i) h;grind
 intro h;apply Atg;intro i;rw[Atd,Avo]
 cases e:aAd with
 |false=>rfl
 |true=>rw[h i e];rfl
theorem Aft(hx:pP x)(a:pP dx):Ab H aWZ /\Cd t aWZ x v:=
 (wR a hx,dx,Af)
theorem Mr:AD ["self","group","follower","rest","used","room","lack","words","word","note"] aCP (A0 Aaw):=aG
theorem ApY(T:aD)(aa:3<=L)(ab:mHa L):
 A4 P w K mg base A9 (L+1) t.Nc t.AbI aCP (Afr t (r+1)):=by
 refine T.Nc.F.ok Mr cM (λac A outer s H vs Q E c h=>?_)
 .obtain⟨X,o,n,ae,x,G,p,rest,used,u,room,rfl,_⟩:=h;rfl
 obtain⟨X,o,n,ae,x,G,p,rest,used,u,room,rfl,ok,fs,af,ag,hp,hu,ah,ai,aj,ak,k⟩:=h;obtain⟨al,am,an⟩:=T.V3;refine(_,(Ak (tG Mr.nd (mPO gX))
  (Ak (BS Asq rfl (qC cJ) (oC 7 Mr.nd) (Ak (mEx Mr.nd (Bb (SN T) gX rfl T.Fl.m T.Fl.F.kp T.Fl.b .nil Ay (mT (mCl gJ bI))))
  (Ak (AU (xT kJ) (Ak (tG Mr.nd (mPP (Ad cC (mT (mHb (mEi gJ (uV aOr)))))))
  (Ao Yo)) AY)
  (Ak (mHc Mr.nd (Bx aL T.B_.c T.FQ.h ab gX T.FQ.b .nil Ay (Ad aW (Ad (zN bF) (mAT (AE J3 bI kJ) (AE FI bQ cJ))))))
  (Ak (nG (D9 (qK 9)) (Ao (A3 (Bb (Afa T) gX rfl T.Iw.m T.Iw.F.kp T.Iw.b .nil Ay (Ad aAU (Ad (Bb (AeX T) gX rfl T.Ir.m T.Ir.F.kp T.Ir.b .nil Ay (mT (mCl gJ (qK 9)))) (mT cJ)))))))
  (Ao (tG Mr.nd (mPP (Ad cC (mT (Bb (Ae_ T) gX rfl T.Iv.m T.Iv.F.kp T.Iv.b .nil Ay (Ad aAU (oV kJ cJ)))))))))))))
  (oL cC))),5)
 refine(2,λao H1 s1 ap aq=>?_);obtain⟨dx,fo,so,W,ms,ar,as,au,av,aw,ax,ay,az,a0,a1⟩:=id af;refine(0,132,qS ar,65,T.Vn,2,so,2,(mCc s1 ax),5);refine E4 (K:=K) (a:=so) (xs:=iv ms) (λj σ d=>∃(y:Addr)(v:Ed)(a2 a3 f:bO)(g:Nat)(B:Bj)(I:bH),σ=[kR,mG x,mG p.2,mA9 mW,tJ mW,aAQ,mG y,a2,a3,f]/\AO t X d B g I/\Gw X.F o H ae B d I/\tI d y/\B y=none/\yD X.E (λq=>∃(k i:Nat)(J:aB),k<j/\G.ss[k]? =mB i/\q=i::J/\ aOs) v)
  (ao,_,162,n,o,ae,2,mA7 s1,rB s1,aq,wV ap,(ED.plain aA ak).imp (λq (k,i,J,h,_)=>by omega)) (λj σ d _ (_,_,_,_,_,_,_,_,_,_,N,_)=>mN (N.free ax ay).1) ?_ ?_
 .rintro j y σ d hj ⟨a4,v,a2,a3,f,g,B,I,rfl,O,N,a5,a6,a7⟩;rw[ArY] at hj;obtain⟨M,a8,rfl⟩:∃M,ms[j]? =mB M/\y= .int ((M:Nat):Int):=by
   cases e:ms[j]? with
   |none=>rw[e] at hj;cases hj
   |some x=>rw[e] at hj;exact lU
  have a9:j<G.ss.length:=(wM az a8);have ba:=mJ a9;have U:=a0 j _ M ba a8;generalize G.ss[j]=i at ba U;obtain⟨bb,bc⟩:=ag i (Asl ba);have bd:=Ae0 U hu;refine(40,M,used,29,16,79);have be:∀(v':Ed),yD X.E (λq=>∃J,q=i::J/\ aOs) v'->ED X.E (λq=>∃(k i:Nat)(J:aB),k<j+1/\G.ss[k]? =mB i/\q=i::J/\ aOs) u rest room aWX:=λv' h'=>(a7.join h').imp λq (k,bf,J,bg,Y,bh,h4)=>by
   rcases(by omega:k<j\/k=j) with e|rfl
   .exact mH (k,bf,J,e,Y,bh,h4)
   rw[ba] at Y;obtain rfl:=Ase Y;exact mI (mO J bh h4)
  by_cases bi:u i<lV.n
  .rw[mK bi] at bd;rw[bd];have bj:decide (mQ (((1<<<aAV:Nat)):Int)=iG)=false:=by
    apply Ar_;intro e;injection e with e
    have:(1<<<aAV:Nat)=0:=aA;rw[AsE] at this;have:=AuS aAV;omega
   rw[bj];refine cD;have bk:=(N.free ar as).1;have he:mDY (rest:Int) rest:=aA;have bl:=Ae1 hu bi;refine(22,O.f,178,8,16,13,16,132,bk,65,T.LX,2,8,X,B,g,I,205,used|||1<<<aAV,aDj,133,O,mC N.rg (rC aw),bl,4,by rw[Xd bb];omega,4,λbm f n' o' H' bn bo g' bp bq br=>?_);have bs:=N.trans g';have hx':=(bs.free ar as).1;obtain⟨bt,bu⟩:=id bp;refine(mKM bm bt bu);rcases br with⟨bv,hz,_⟩|hl9
   .rw[bv];rw[and_zero] at hz;have bw:nI (Ch M f.W).testBit aAV:=by
     rw[Hq,AsF,Avg];refine((U _).mpr aRO,5)
     cases hb:f.W.testBit aAV with
     |false=>rfl
     |true=>
      have:=hz _ hb;rw[Ate,(Eb _ _).mpr rfl,Bool.or_true] at this;cases this
    refine Au (40,bm,_,bt,3,bu,38,30,M,f.W,29,0,(T6 _).mpr (qU bw),5,λbx bz b0=>?_)
    .exact Au4 (Afs _ _) (yL (Afl U bb ok.Ol))
    refine(0,39,bm,f,1<<<bx,G.Bl,2,bp,λw b1 s3 hw b2=>k w _ n' o' b1 bn (bo.same s3) (bs.trans (rB s3)) b2 (bo.un _ hw) aW0);rw[and_zero];intro b hb;rw[Ate,Atx,Eb] at hb;rcases hb with hb|rfl
    .have:=nJ hz;rw[Ate,Bool.or_eq_false_iff] at this;exact this.1
    have hge:Bu X.E.S i+u i<=b:=by
     rcases Atq b aAV with q|q
     .rw[b0 _ q] at bw;cases bw
     exact q
    rw[Hq,AsF] at bz
    cases b3:used.testBit b with
    |false=>rfl
    |true=>
     obtain⟨bf,b4,b5⟩:=(hu.Dg b).mp b3;have:=hu.le bf;have e:=S5 X.E.S (i:=i) (j:=bf) (x:=b) aA (((U b).mp bz.1).2) b4 aA;subst e;omega
   rw[hl9.fin];refine Az (16,16,39,bm,f,1<<<aAV,G.Bl,2,bp,λz b1 s3 hz b6=>?_);obtain⟨b7,b8⟩:=a5.ev g'.ev a6;refine(a4,z,v,0,b7.same s3,b6,λw b9 s4 hw b2=>?_);have ca:=mX s3 s4;refine(w,48,n',o',bn,2,bo.same ca,bs.trans (rB ca),b2,bo.un _ (BL s3 hw),be _ ?_);obtain⟨l,cb,cc,cd⟩:=hl9.ex;have hle:aND:=(by have:=cd i;unfold DS at this;rw[bE] at this;exact this);refine(2,(_,AnP cb bi hle,by rw[<-bc];exact AnT cc hle,λm=>?_),5,5)
   .unfold Ml;by_cases e:m=i
    .subst e;rw[bE];omega
    rw[bN];have:=cd m;unfold DS at this;rw[bN] at this;exact this
   .have:=hl9.r;show(rest:Int)<=f.r+1;omega
   have:=hl9.c;show room<=f.c+G.Bl;omega
  rw[mM bi] at bd;rw[bd,show decide (mQ ((0:Nat):Int)=iG)=true from rfl];refine Au aAD;intro z ce hz cf cg;obtain⟨s2,b6⟩:=Aft (t:=t) (v:=(mCs M)) hz cf;refine(mD8 z ce (mCs M));rw[B1];generalize Aa (qL d ce z) z (.Ag t.FS ce (Of (mCs M)))=ch at s2 b6;refine(a4,z,v,0,a5.same s2,b6,λw b1 s3 hw b2=>?_);have cj:=aAI;refine(w,48,g,B,I,2,O.same cj,N.trans (rB cj),b2,O.un _ (BL s2 hw),be _ (2,(_,AnO U,AnU,λm=>?_),54,ak));by_cases e:m=i
  .subst e;rw[bE];omega
  rw[bN];omega
 rintro σ d ⟨a4,v,a2,a3,f,g,B,I,rfl,O,N,a5,a6,a7⟩;refine(0,k a4 v g B d I O N a5 a6 (mI (a7.imp λq (i,J,bg,Y,bh)=>?_)));obtain⟨m,hm,e⟩:=Asy Y;exact(m,i,J,by rw[ArX,az];exact hm,by rw[mJ hm,e],bg,bh)
theorem Xf:AD ["self","group","follower","rest","used","room","note","free"] aCP (A0 Aav):=aG
theorem ApZ(T:aD)(c:3<=L)(d:mHa L):
 A4 P w K mg base A9 (L+2) t.Nb t.AbH aCP (Afr t (r+1)):=by
 refine T.Nb.F.ok Xf cM (λaa A outer s H vs Q E e h=>?_)
 .obtain⟨X,o,n,f,x,G,p,rest,used,u,room,rfl,_⟩:=h;rfl
 obtain⟨X,o,n,f,x,G,p,rest,used,u,room,rfl,ok,fs,g,j,hp,hu,ab,ac,ae,af,k⟩:=h;refine(_,(Ak (tG Xf.nd (Bx aL T.B_.c T.FQ.h d aFo T.FQ.b .nil Ay (Ad aW (Ad (zN bF) (oV bI (AE FI bQ cJ))))))
  (Ak (nG (Ff (D9 aDf)) (Ao (A3 (Bb (Ae_ T) aFo rfl T.Iv.m T.Iv.F.kp T.Iv.b .nil Ay (Ad cC (oV Ar cJ))))))
  (Ak (mJF Xf.nd (mCl cJ (AE J3 aDf bI)))
  (Ak (nG (qR gJ) (Ao (A3 (Bb (Afa T) aFo rfl T.Iw.m T.Iw.F.kp T.Iw.b .nil Ay (Ad cC (Ad (Bb (AeX T) aFo rfl T.Ir.m T.Ir.F.kp T.Ir.b .nil Ay (mT gJ)) (mT cJ)))))))
  (Ao (A3 (Bx aL T.B_.c T.Nc.h (ApY T c d) aFo T.Nc.b .nil Ay (Ad aQ (Ad aW (Ad bF (pS 4 5))))))))))),5)
 obtain⟨dx,fo,so,W,ms,m,ag,ah,ai,aj,ak,al,am,an,ao⟩:=id g;have he:mDY (rest:Int) rest:=aA;refine(22,fs.f,178,8,40,132,m,65,T.LX,2,8,X,o,n,f,205,used,u,133,fs,rC aj,hu,4,4,4,λz B n' o' H' C D g' I ap aq=>?_);have hx':=(g'.free m ag).1;obtain⟨J,M⟩:=id I;refine(mKM z J M);rcases aq with⟨ar,hz,_⟩|hl9
 .rw[ar];refine cD;refine(0,132,hx',65,T.Vo,30,z,_,J,3,M,38,30,13,0,W,aOt,29,16,5);by_cases N:Ch W aOt=0
  .rw[show aW1=false by rw[N];rfl];refine Az (22,D.f,178,40,X,o',n',C,x,G,p,49,D,g.ev g'.ev (λκ a h=>g'.rg κ a h),j,hp,hu,ab,ac,185,λy v n2 as au av f2 g2 aw ax ay=>k y v n2 as au av f2 (g'.trans g2) aw ax ay)
  rw[show aW1=true by simp;omega];refine Au (40,N,Au4 (Afs _ _) ao,λaz O a0=>?_);refine(0,39,z,B,1<<<az,G.Bl,2,I,λw U s3 hw Y=>mPQ aW0);rw[and_zero] at hz⊢;intro b hb;rw[Ate,Atx,Eb] at hb;rcases hb with hb|rfl
  .exact nJ hz
  rw[Hq,AsF,Avg,Ate,Bool.or_eq_false_iff] at O;exact O.2.2
 rw[hl9.fin];refine Au (16,39,z,B,60,G.Bl,2,I,λw U s3 hw Y=>mPQ aIF);obtain⟨l,a1,a2,a3⟩:=hl9.ex;have a4:Ch B.W 0=B.W:=(by rw[<-S1,Nat.and_zero];rfl);refine(2,(l,by show Dl _ (Ch B.W 0) l;rw[a4];exact a1,5,a3),5,5)
 .refine Ae2 (AnS a2) λq (i,a5,a6,a7,a8)=>(i,a5,a6,(j i a7).2,a8)
 .have:=hl9.r;show(rest:Int)<=B.r+1;omega
 have:=hl9.c;show room<=B.c+G.Bl;omega
theorem Ms:AD ["self","knot","rest","used","room","lack","group","follower","note"] aBE (A0 Aau):=aG
theorem Ap_(T:aD)(aa:4<=L)(ab:mHa L):
 A4 P w K mg base A9 (L+3) t.Kq t.Vl aBE (Xe t (r+1)):=by
 refine T.Kq.F.ok Ms cM (λac A outer s H vs Q E b h=>?_)
 .obtain⟨X,o,n,ae,κ,a,rest,used,u,room,rfl,_⟩:=h;rfl
 obtain⟨X,o,n,ae,κ,a,rest,used,u,room,rfl,ok,fs,rg,hu,af,ag,ah,ai,aj,k⟩:=h;refine(_,(Ak (sA Ms.nd (mPO aI4))
  (Ak (BS Asq rfl (qC (Bx aL T.B_.c T.Nd.h (ApP T) aI4 T.Nd.b .nil Ay dU)) (oC 6 Ms.nd) (Ao (BS Asq rfl (qC aDf) (oC 7 Ms.nd) (Ak (mEx Ms.nd (Bx aL T.B_.c T.Nb.h (ApZ T aA ab) aI4 T.Nb.b .nil Ay (Ad cC (Ad gJ aFp))))
  (Ak (nG (D9 (qK 8)) (oL kJ))
  (Ao (sA Ms.nd (Bb (WW T) aI4 rfl T.G3.m T.G3.F.kp T.G3.b .nil Ay (pS 5 8)))))))))
  (oL bQ))),5)
 refine(2,λak H1 s1 al am=>?_);have an:=mA7 s1;refine(22,an.f,30,X,o,n,ae,179,ok,an,rg,λga ao ap aq f2 g2 ar=>?_);obtain⟨xs,c,c1,as,au,av,aw⟩:=id ar;have ax:=(rB s1).trans g2;obtain⟨ay,az⟩:=am.ev g2.ev (wV al);refine(mGQ ga c1);refine E4 (K:=K) (a:=ga) (xs:=nF xs.map) (λj σ d=>∃(y:Addr)(v:Ed)(v6 f g:bO)(l:Nat)(z:Bj)(B:bH),σ=[kR,mG a,mA9 mW,tJ mW,aAQ,mG y,v6,f,g]/\AO t X d z l B/\Gw X.F ao ap aq z d B/\tI d y/\z y=none/\yD X.E (λq=>∃(m:Nat)(G:J8)(p:aDp),m<j/\c[m]? =mB G/\p∈G.fl/\ aOu) v)
  (ak,_,162,n,ao,aq,2,f2,Gw.refl,ay,az,(ED.plain aA ai).imp (λq (m,_,_,h,_)=>by omega)) (λj σ d _ (_,_,_,_,_,_,_,_,_,_,C,_)=>mN (C.free c1 as).1) ?_ ?_
 .rintro j y σ d hj ⟨a0,v,v6,f,g,l,z,B,rfl,a1,C,a2,a3,a4⟩;rw[ArY] at hj;obtain⟨x,a5,rfl⟩:mKm xs[j]?:=by
   cases e:xs[j]? with
   |none=>rw[e] at hj;cases hj
   |some x=>rw[e] at hj;exact lU
  have a6:j<c.length:=(wM au a5);have a7:=mJ a6;obtain⟨a8,a9⟩:=av j x _ a5 a7;generalize c[j]=G at a7 a8 a9;obtain⟨dx,fo,so,W,ms,ba,bb,bc,bd,be,bf,bg,bh,bi,bj⟩:=id a8;refine(0,132,(C.free ba bb).1,65,T.Vm,2,fo,2,(oM (C.free bc bd).1),5);refine E4 (K:=K) (a:=fo) (xs:=G.fl.map λp=>nC p.2) (λi σ D=>∃(y:Addr)(v:Ed)(f g:bO)(I:Nat)(J:Bj)(M:bH),σ=[kR,mG a,mA9 mW,tJ mW,aAQ,mG y,mG x,f,g]/\AO t X D J I M/\Gw X.F ao ap aq J D M/\tI D y/\J y=none/\yD X.E (λq=>(∃(m:Nat)(G:J8)(p:aDp),m<j/\c[m]? =mB G/\p∈G.fl/\ aOu)\/∃(m:Nat)(p:aDp),m<i/\G.fl[m]? =gH /\ aOu) v)
   (a0,v,19,l,z,B,2,a1,C,a2,a3,a4.imp (λq h=>h.resolve_right (λ(m,_,h,_)=>by omega))) (λi σ D _ (_,_,_,_,_,_,_,_,_,N,_)=>mN (N.free bc bd).1) ?_ ?_
  .rintro i y σ D O ⟨bk,bl,bm,bn,I,J,M,rfl,bo,N,bp,bq,br⟩;rw[ArY] at O;obtain⟨p,bs,rfl⟩:mPR G.fl[i]?:=by
    cases e:G.fl[i]? with
    |none=>rw[e] at O;cases O
    |some p=>rw[e] at O;exact(uA p O)
   refine(22,bo.f,178,40,X,J,I,M,x,G,p,49,bo,a8.ev N.ev (λκ a h=>N.rg κ a h),a9.1,Asl bs,hu,af,ag,ah,ai,λbt bu n' o' H' bv bw g' bx bz b0=>?_);have b1:=N.trans g';obtain⟨b2,b3⟩:=id bx;refine(mKM bt b2 b3);rcases b0 with⟨b4,hz,_⟩|hl9
   .rw[b4];exact Au (0,k bt bu n' o' H' bv bw (ax.trans b1) bx bz (mPS b4))
   rw[hl9.fin];obtain⟨b5,b6⟩:=bp.ev g'.ev bq;refine Az (16,bk,bt,bl,bu,2,b5,bx,λw b7 s4 hw b8=>?_);refine(w,19,_,n',o',bv,2,bw.same s4,b1.trans (rB s4),b8,bw.un _ hw,(br.join hl9).imp λq h=>?_);rcases h with h|⟨m,b9,ca,U,Y⟩
   .exact oA mH h
   rcases(by omega:m<i\/m=i) with e|rfl
   .exact mCT (m,b9,e,U,Y)
   rw[bs] at U;obtain rfl:=Ase U;exact mI Y
  rintro σ D ⟨bk,bl,bm,bn,I,J,M,rfl,bo,N,bp,bq,br⟩;refine(bk,bl,19,_,I,J,M,2,bo,N,bp,bq,br.imp λq (m,cb,p,ca,U,Y,h4)=>?_);rcases(by omega:m<j\/m=j) with e|rfl
  .exact mH (m,cb,p,e,U,Y,h4)
  rw[a7] at U;obtain rfl:=Ase U;obtain⟨cc,cd,ce⟩:=Asy Y;exact mI (cc,p,by rw[ArX];exact cd,by rw[mJ cd,ce],h4)
 rintro σ d ⟨a0,v,v6,f,g,l,z,B,rfl,a1,C,a2,a3,a4⟩;refine(0,k a0 v l z d B a1 (ax.trans C) a2 a3 (mI (a4.imp λq hq=>?_)))
 cases q with
 |nil=>exact nL hq aj
 |cons i cf=>
  obtain⟨G,cg,ch⟩:=aw i cf hq;obtain⟨m,hm,e⟩:=Asy cg;have cj:m<xs.length:=(oD au hm);obtain⟨_,Av⟩:=av m _ _ (mJ cj) (mJ hm);rw[e] at Av;obtain⟨p,hp,ck⟩:=Av.2 i ch cf hq;exact(m,G,p,by rw[ArX];exact cj,by rw[mJ hm,e],hp,i,cf,2,ch,ck)
theorem Afu(h:iJ)(h':Cd t H x v'):v=v':=by
 obtain⟨d,h⟩:=h;obtain⟨d',h'⟩:=h';rw[h] at h';injection Ase h' with _ _ e
 injection e with f e
 injection e with g e
 injection e with e3 e
 injection e with i e
 injection f with _ f
 injection f with f
 injection g with _ g
 injection g with g
 injection e3 with _ e3
 injection e3 with e3
 injection i with _ i
 injection i with i
 obtain⟨a,b,c,d⟩:=v;obtain⟨j,k,l,d'⟩:=v'
 cases f;cases (AtA g);cases e3;cases i
 rfl
theorem SY:AD (mPT "knot" "note") aBE (A0 Aas):=aG
theorem Afv(T:aD)(aa:4<=L)(sp:Sp)(ab:∀vs H Q E,Xe t r vs H Q E->1<=r->mBJ H)(ac:A4 P w K mg base A9 L t.Kq t.Vl aBE sp):
 A4 P w K mg base A9 (L+1) t.FQ t.N5 aBE (PV t r):=by
 refine T.FQ.F.ok SY cM (λae A outer s H vs Q E c h=>?_)
 .obtain⟨X,o,n,d,κ,a,rest,used,u,room,rfl,_⟩:=h;rfl
 obtain⟨X,o,n,d,κ,a,rest,used,u,room,rfl,ok,fs,rg,hu,af,ag,f,k⟩:=h;obtain⟨ne,g,ah,AA,ai,aj,ak,kn⟩:=mEs rg;obtain⟨al,am,an⟩:=T.V3;refine(_,(Ak (nG (pB OJ bI Ar) (mD0 (mHb (mEi Ar (oV aOr fB)))))
  (Ak (nG (xT cJ) (vM (mHb (Ad Dw (Ad Ar (uV Ar))))))
  (Ak (nG (pB OJ aW cJ) (Ao (A3 (mHb (Ad Dw (Ad Ar (uC (zN cJ) aOr)))))))
  (Ak (sA SY.nd (Bx aQ T.CN.c T.MU.h (Aps T) gX T.MU.b .nil Ay aFp))
  (Ak (nG aHZ (Ao (sA SY.nd (Bx aQ T.CN.c T.MV.h (Apx T) gX T.MV.b .nil Ay aFp))))
  (Ak (AU aHZ (Ak (sA SY.nd (Bx aL T.B_.c T.Kq.h ac gX T.Kq.b .nil Ay (Ad aQ aFp)))
  (Ao (Cu (Bx aL T.B_.c T.Na.h (ApU T) gX T.Na.b .nil Ay (pS 1 5))))) AY)
  (oL bQ))))))),5)
 obtain⟨fl,c1,ao,ap⟩:=id kn.fin;obtain⟨ls,aq,ar,as⟩:=id kn.HM;have BC:∀(v:Ed)(z j:Addr),H z=none->H j=none->mKL aI3 ->Q aDl (Aa (qL H j z) z (.Ag t.FS j (Of v))):=λv z j hz m ha=>by obtain⟨s2,au⟩:=Aft (t:=t) (v:=v) hz m;exact k z v n o _ d (mA7 s2) (rB s2) au (wV hz) ha
 refine aW2;by_cases b1:room<0
 .rw[mU b1];refine Au (0,λz j hz m av=>(mD8 z j (99,60,(1000),-1)));rw[B1];refine mKN (mI (2,aW3,54,by show room<= -1;omega));exfalso;have aw:(KH X.E.S q:Int)<= -1:=B;omega
 rw[mS b1];refine Az (mPF a g T.RD);rw[show decide (mQ ((AA:Nat):Int)=iG)=decide (AA=0) from Fp AA 0];by_cases C:AA=0
 .rw[mU C];refine Au λz j hz m av=>(mD8 z j (true,134));rw[B1];exact mKN (mH (2,Nat.zero_and _,λ_=>(kn.AA.2 C,4)))
 rw[mS C];refine Az (16,a,_,g,111,T.RD,2,55);by_cases ax:((rest:Nat):Int)<((AA:Nat):Int)
 .rw[mU ax];refine Au (77,_,g,111,T.RD,2,8,λz j hz m av=>(z,j,(99,60,(AA:Int) - 1,(1000)),2,88,5));rw[B1];refine mKN (mI (2,aW3,by show(rest:Int)<=(AA:Int) - 1;omega,f));exfalso;have ay:(q.length:Int)<=(AA:Int) - 1:=p;have:=rD kn.AA.1;omega
 rw[mS ax];have found:∀(y:Addr)(v:Ed)(H':Hp),aO ->tI H y->o y=none->mKL aI3 ->Q (mF y) H':=λy v H' D az a0 ha=>k y v n o H' d (mA7 D) (rB D) (az.same D) a0 ha;refine Az (206,fl,135,c1,λx hx=>let(v,h,_):=oY ap;(v,h),5,λx v hx G hz _ _=>?_)
 .refine iF;rw[mU rfl];refine Au (206,ls,135,aq,eH,yL (ApV hu ok.Ol),(λa1 a2=>by have:=ApW hu a2;omega),λH' D=>(5,λW l ns x v hm I hx G a3 p B=>?_))
  .obtain⟨W,l,e,ol,ns,n1,n2,n3⟩:=rD as;exact(W,l,ns,e,n1,λx hx=>let(v,h,_):=oY n3;(v,h))
  .refine iF;rw[mU rfl];have a4:=mA7 D;refine Au (22,a4.f,178,16,ab _ _ _ _ (X,o,n,d,κ,a,49,a4,rg,hu,4,af,ag,f,(λhq=>by have:=kn.AA.1 [] hq;rw[AuV] at this;omega),λy v n2 a5 a6 a7 f2 g2 a8 a9 ba=>?_) aA);refine(22,f2.f,178,X,a5,n2,a7,κ,a,y,v,2,f2,mC g2.rg rg,a8,a9,ba.elim (λh=> mH h.1) (λh=> mI h.ApX),λn3 bb bc bd g3=>?_);obtain⟨be,bf⟩:=a8.ev g3.ev a9;exact(0,k y v n3 bb bc a7 bd ((rB D).trans (g2.trans g3)) be bf ba)
  refine iF;rw[mS aDt];obtain⟨bg,bh,e,ol,bi,n1,n2,n3⟩:=as _ hm;injection e with J M
  injection M with M
  subst M;have bj:W=bg:=by injection J with J;exact AtA J
  subst bj;have:ns=bi:=by
   rw[n1] at I;injection Ase I with I
   exact aW4.mp I.symm
  subst this;obtain⟨v2,N,O,U,bk⟩:=oY n3;obtain rfl:v2=v:=Afu N G;refine Az (0,found x _ H' D N O aIF);obtain⟨bl,l,Y,bm⟩:=bk;exact(bl,(l,Y,bm,AnN (by rw[U] at Y;exact Y) hu a3),p,B)
 obtain⟨v2,N,O,U⟩:=oY ap;obtain rfl:v2=v:=Afu N G;refine iF;rw[mS aDt];refine Az iF;rw[mS aDt];exact Az (0,found x _ H fA N O (mPS U))
theorem Afw(T:aD):∀r,mHa (5+4*r)
 |0=>Afv T (L:=4) aF (λ_ _ _ _=>False) (λvs H Q E h a=>by omega) (T.Kq.F.ok Ms (λvs H Q E h=>h.elim) (λb A outer s H vs Q E c h=>h.elim))
 |r+1=>Afv T (L:=5+4*r+3) aA (Xe t (r+1)) (λvs H Q E h a=>h) (Ap_ T aA (Afw T r))
def SZ(E:FE)(a b c P1:Nat)(q:aB):Prop:=aN3 /\q.length<=E.Aq/\IM E.T (Cb aDn) (if Cb aDn=1 then c else a) (if Cb aDn=1 then P1 else b) aDn
theorem Afx{X:Fw}(ok:eK){w P:Nat}{q:aB}(a:aWF)(c:aWG)(hw:jK)(h:IM X.E.T fY w P aOf):
 ∃p,(rP fY w P).2.testBit p=true/\D6 X.E (fY,(rP fY w P).1,p) q:=by
 have d:=PB (mC3 mKB a);obtain⟨p,hp,e⟩:=(NY ..).mp h;have f:=(J6 X.E.T (IR X.E) (JA ok) X.E.Aq fY _ p d hw).mpr (mPy a c e);have g:=ok.KN _ _ _ p d hw f;have i:nI (mKO P w).testBit aAS:=
  aIV.mpr (mPz g f)
 have k:rP fY w P=(w,mKO P w,):=by unfold Cs;grind
 refine(aAS,by rw[k];exact i,a,fW,c);rw[k];exact(e.2.1,(((ok.AT p g).2) _).mp e.2.2)
theorem Aqa{X:Fw}(ok:eK){m w P p:Nat}(hm:m<=1)(hw:jK)(h:mPv P){q:aB}(hq:D6 X.E (m,(rP m w P).1,p) q):IM X.E.T m w P aOf:=by
 rw[((PU ok hm hw h).2)] at hq;unfold Cs at h;split at h
 .obtain⟨a,b,hb,rfl⟩:=aIV.mp h;rw[Atd,AsF] at hb;obtain⟨_,⟨a1,a2,c⟩,_⟩:=hq;exact(NY ..).mpr (a,hb.1,a1,a2,(mPx a).mpr c)
 simp at h
def Aqb(t:Aw)(r:Nat):Sp:=λvs H Q _=>∃(X:Fw)(o:Bj)(n:Nat)(a:bH)(sa s0 s1:Addr)(c d e P1 rest used:Nat)(u:bD)(room:Int),vs=[kP,aAJ,mA9 mE,tJ mE,aDw]/\ eK /\pU a/\H sa=wS s0 s1/\Cz H s0 c d/\Cz H s1 e P1/\c<=4/\e<=4/\ aI1 /\rest<=r/\rest+aI2 <=14/\room<=1000/\
 ∀(b:Bool)n' o' H' f,mEw X f->zX a f->(b=false->mPU (SZ X.E c d e P1))->(rest=0->b=true->SZ X.E c d e P1 []/\0<=room)->mAS b
theorem Afy:AD (mPT "states" "knot") aL2 (A0 Aap):=aG
theorem Afz(T:aD)(r:Nat):A4 P w K mg base A9 (5+4*r+1) t.Km t.AbB aL2 (Aqb t r):=by
 refine mDQ T.Km.F.ok Afy
 .obtain⟨X,o,n,d,sa,s0,s1,f,g,ab,P1,rest,used,u,room,rfl,_⟩:=h;rfl
 obtain⟨X,o,n,d,sa,s0,s1,f,g,ab,P1,rest,used,u,room,rfl,ok,fs,ac,ae,af,v,x,hu,ag,ah,ai,k⟩:=h;refine(_,(Ak (BS Asq rfl (qC (Bx aL T.B_.c T.Kp.h (Afi T) gX T.Kp.b .nil Ay (mT (Bx aL T.B_.c T.Ko.h (Afg T) gX T.Ko.b .nil Ay dU)))) (oC 5 Afy.nd) (Ao (nG (D9 (mJL (Bx aL T.B_.c T.FQ.h (Afw T r) gX T.FQ.b .nil Ay (Ad bQ aFp)))) aBO)))
  aBO),5)
 refine(22,fs.f,2,22,fs.f,30,X,99,sa,s0,s1,f,g,ab,P1,2,ok,fs.ff,ac,185,v,x,λR aj ak H1 s1 al B am an ao ap=>(X,o,n,d,R,aj,ak,19,3,ok,mA7 s1,an,wV al,ao,wV B,ap,wV am,SW v,SW x,mG5 v,mG5 x,λL fl aq ar as f2 g2 au av aw ax c0 c1 ay=>?_));have az:=(Gw.same (o:=o) (F:=X.F) (k:=d) s1).trans g2;refine(mGQ L av);refine E4 (K:=K) (a:=L) (xs:=aFi) (λj σ C=>∃(D:bO)(G:Nat)(I:Bj)(J:bH),σ=[kR,mG sa,mA9 mW,tJ mW,aAQ,D]/\AO t X C I G J/\Gw X.F aq ar as I C J/\∀(m:Nat)(p:aDp),m<j->fl[m]? =gH ->mPU (D6 X.E p.1))
  (58,n,aq,as,2,f2,Gw.refl,λm p h=>by omega) (λj σ C _ (_,_,_,_,_,_,M,_)=>mN (M.free av aw).1) ?_ ?_
 .rintro j y σ C hj ⟨D,G,I,J,rfl,N,M,a0⟩;rw[FB,ArY] at hj;obtain⟨p,a3,rfl⟩:mPR fl[j]?:=by
   cases e:fl[j]? with
   |none=>rw[e] at hj;cases hj
   |some p=>rw[e] at hj;exact(uA p hj)
  have a4:=Asl a3;refine(22,N.f,178,16,X,I,G,J,p.1,p.2,49,N,mC M.rg (ax p a4),hu,ag,ah,ai,λa5 a6 n' o' H' a7 a8 g' a9 ba bb=>?_);have bc:=M.trans g';obtain⟨bd,be⟩:=id a9;refine(a5,_,bd,3,be,93,T.NA,79);rcases bb with⟨bf,hz,h0⟩|hl9
  .rw[bf];refine Au (k true n' o' H' a7 a8 (az.trans bc) (λh=>by cases h) λB _=>?_);obtain⟨bg,bh⟩:=h0 B;refine((9,aR,5),bh);obtain⟨⟨bi,bj,bk⟩,bl⟩:=p;rcases ay _ a4 with⟨bm,bn,e3⟩|⟨bm,bn,e3⟩
   .obtain rfl:bi=0:=bm;obtain rfl:bj=(rP 0 f g).1:=bn;exact Aqa ok aA v e3 bg
   obtain rfl:bi=1:=bm;exact nL bg.2.1.1 (by show¬(0=1);omega)
  rw[hl9.fin];refine Az (_,n',o',a7,2,a8,bc,λm bo bp O=>?_);rcases(by omega:m<j\/m=j) with e|rfl
  .exact a0 m bo e O
  rw[a3] at O;obtain rfl:=Ase O;obtain⟨l,bq,br,bs⟩:=hl9.ex;intro q hq bp O;obtain⟨i,bt⟩:=br q hq (zP hl9.r) (zP hl9.c);exact(i,by have:=bs i;omega)
 rintro σ C ⟨D,G,I,J,rfl,N,M,a0⟩;refine k false G I C J N (az.trans M) (λ_ q hq bp O=>?_) (λ_ h=>by cases h);obtain⟨a1,a2,U⟩:=hq;have bu:=PB (mC3 mKB a1);have:aWE:=by
  rcases(by omega:fY=0\/ fY=1) with e|e
  .rw[fF,fF] at U;obtain⟨p,b1,Y⟩:=Afx ok a1 a2 v U;rw[e] at b1 Y;obtain⟨a,ha⟩:=c0 p b1;exact(_,ha,Y)
  rw[bU,bU] at U;obtain⟨p,b1,Y⟩:=Afx ok a1 a2 x U;rw[e] at b1 Y;obtain⟨a,ha⟩:=c1 p b1;exact(_,ha,Y)
 obtain⟨z,hz,bv⟩:=this;obtain⟨m,hm,e⟩:=Asy hz;exact a0 m z (by rw[FB,ArX];exact hm) (mBo hm e) q bv bp O
def Aqc(t:Aw):Sp:=λvs H Q _=>∃(p dx:Addr)(P S O a:Addr)(b:V)(c:dO),vs=[aS,mF P,mF S,mF O]/\H p=rM t.AV/\p≠O/\H O=mB (.Ag t.DD a c)/\c.lookup ("views":Str)=mB b/\
 ∀D,D≠p->H D=none->sP (nN (nX D iD) (nB t.AV [("places",mF P,),("sorts",mF S,),("views",b,),("knots",hL,),("kept",cB,)]))
theorem Aqd:AD aHq aHq (A0 Aao):=aG
theorem Aqe(T:aD):A4 P w K mg base A9 1 t.MY t.AbA aHq (Aqc t):=by
 refine qI T.MY.F.ok Aqd
 .obtain⟨p,dx,c,d,f,g,i,j,rfl,_⟩:=h;rfl
 obtain⟨p,dx,c,d,f,g,i,j,rfl,hp,l,m,n,k⟩:=h;refine(_,(Ak aAG
  (Ak lQ
  (Ak (oF dE)
  (Ak (oF OU)
  aEU)))),5)
 refine(69,46,T.Vq,52,46,T.Ac7,189);rw[B1];refine(0,f,_,g,j,i,2,by rw[nQ l];exact m,66,T.Pf,n,97,Af,46,T.Vr,aAM,5);rw[B1];refine λD o=>?_;have q:D≠p:=λe=>aW5;rw[mA5 q];refine(yC T.B_.c T.NC 3);rw[B1];refine(yC T.B_.c T.RF 4);rw[B1];exact k D q (by rwa[Ah q] at o)
structure Aqf(fs:dO)(P SA:Addr):Prop where
 pl:nY ("places":Str)=some (mF P)
 so:nY ("sorts":Str)=some (mF SA)
 n1:nY ("view_of_end":Str)=none
 n2:nY ("view_ahead":Str)=none
 n3:nY ("add_shape":Str)=none
 n4:nY ("add_led":Str)=none
def S_(t:Aw)(H:Hp)(p P SA:Addr):Prop:=∃dx fs,H p=pI t.DD fs/\Aqf fs P SA
theorem Ta(f:bD)(n j v:Nat):aIJ.set j (mE ((v:Nat):Int))=iv (Be (λx=>if x=j then v else f x) n):=by apply AsJ;intro i;rw[List.getElem?_set,ArY,ArY,Be,Be,ArY,ArY,ArX,ArX,As4];grind
theorem Tb(h:aW6):Be f n=Be g n:=AsU λx hx=>h x aI5
theorem Tc(f:bD)(n:Nat):aIJ.length=n:=by rw[ArX,Be,ArX,As4]
theorem Td(f:bD){n w:Nat}(h:w<n):pC aIJ[w]? (uH mE f w):=by rw[ArY,Be,ArY,AsY h];rfl
theorem Xg(h:i<n):FK n (i:Int)=some i:=by unfold FK;rw[gZ,gZ];rfl
def Fr(B:aC1)(H H':Hp):Prop:=∀c u,H c=aM ->¬B c-> eJ=aM
theorem Fr.refl:Fr B H H:=λ_ _ e _=>e
theorem Fr.trans(a:Fr B H H1)(b:Fr B H1 g):Fr B H g:=λc u e n=>b c u aOv n
theorem Fr.Aa(a:Fr B H H1)(hf:B f):Fr B H (L2.Aa H1 f u):=λc v e n=>by have:c≠f:=λz=>n (oD z hf);rw[aDr];exact a c v e n
theorem Fr.same(a:Fr B H H1)(s:tD g):Fr B H g:=λc u e n=>nH aOv
theorem Fr.JE(a:tM B)(s:aFq)(g:∀c,B c->Hs c=none):Ab Hs H':=λc u e=>a c u (sC s) (λz=>by rw[g c z] at e;cases e)
theorem Fr.As(a:tM B)(h:∀c,B c->g c):Fr g H H':=λc u e n=>uX a (λz=>n (h c z))
theorem Af0(a:BR)(st:FL)(n w:Nat):IO a st (n+1) w=IO a st n w|||GA a st.2 w n:=by unfold IO;rw[Atl,At4];rfl
def Aqg(t:Aw):Sp:=λvs H Q _=>∃(Hs:Hp)(p P SA f l:Addr)(a:BR)(F L:bD),vs=[aS,iW,eR]/\mHd Hs/\mEy Hs/\ aFq /\Hs f=none/\f≠l/\H f=tL F/\H l=mBa L/\
 ∀H',yE f H H'->H' f=mPV a 4-> cU
theorem PX:AD ["self","finishing","led_places","lead","places","weight","length"] aL7 (A0 Aa2):=aG
theorem Af1(T:aD):A4 P w K mg base A9 2 t.Ku t.AbP aL7 (Aqg t):=by
 refine T.Ku.F.ok PX cM aMU
 .obtain⟨Hs,p,g,SA,f,l,m,F,L,rfl,_⟩:=h;rfl
 obtain⟨Hs,p,g,SA,f,l,m,F,L,rfl,⟨ab,ac,ae,af⟩,o,ag,ah,q,hf,r,k⟩:=h;obtain⟨_,ai,aj,ak,al,am,an,_⟩:=id o;obtain⟨ao,ap,aq⟩:=T.LZ;refine(_,(Ao (BS Asq rfl (Ru rfl T.Ma kH) (tF 3 PX.nd 4) (Ak (mHe aQ (nT ap aq) bI)
  (Ao (BS Asq rfl (mGg (nT ap aq)) (oC 5 PX.nd) (Ak (tG PX.nd (mJr (Bb (Sf T) eF rfl T.Fj.m T.Fj.F.kp T.Fj.b .nil Ay (pS 5 3))))
  (Ao (mHe aQ bQ (Bx aX T.B6.c T.Iy.h (Wz T) eF T.Iy.b .nil Ay (Ad bI (oV cC Dw))))))))))),5)
 refine(0,l,0,mN r,5);refine Fn (J:=MM K l) 4 (λj σ u=>∃(B v4 C v6:bO),σ=[bP,kE,mG l,B,v4,C,v6]/\yE f H u/\u f=mPV m j)
  (14,14,86,hf) ?_ ?_ ?_ ?_
 .rintro j σ u hj ⟨B,v4,C,v6,rfl,fr,D⟩;exact(19,aOw,by rw[ArY,Be,ArY,AsY hj];rfl)
 .rintro σ u ⟨B,v4,C,v6,rfl,fr,D⟩;exact(_,aOw,by rw[ArX,Be,ArX,As4];exact aF)
 .rintro j σ u y ar hj ⟨B,v4,C,v6,rfl,fr,D⟩ ⟨G,x,rfl,as,rfl,hx⟩;have hx':=hx _ aOw;rw[ArY,Be,ArY,AsY hj] at hx';obtain rfl:uH mE L j=x:=aB6;have I:Ab u (Aa u G aOx):=mP as;have au:mEo u G aOx:=Af;have av:=fr.same I;have M:=mC I D;generalize Aa u G aOx=ar at I au av M;refine(G,0,nO au,2,3,55);refine(f,_,(4),0,2,mN M,Td _ aA,0,13,f,_,(4),(4),29,M,by rw[Tc];rfl,5);rw[Ta];refine((4),2,4,4,5);refine QI (lo:=0) (n:=4) (λi σ N=>∃(C v6:bO),σ=[bP,kE,mG l,mW (j:Nat),uH mW L j,C,v6]/\yE f H N/\N f=some (.Ac (iv (Be (λw=>if w=4\/w<i then IO m (F,L,) (j+1) w else IO m (F,L,) j w) 5))))
   (3,av.Aa rfl,5) ?_ ?_
  .rw[Af];congr 3;apply Tb;intro x hx;by_cases e:x=4
   .subst e;rw[bE,mK aZ,Af0];rfl
   rw[bN,fF]
  .rintro i σ N aw ⟨C,v6,rfl,O,U⟩;rw[Int.zero_add];have Y:=(λH' a=>a.JE ag (mBb ah)) N O;refine(16,i,j,2,72,Pu (Jw (a:=i) (b:=j) aA aA),16,f,_,i,0,2,mN U,Td _ aA,5);refine(7,ab,ac,0,qY ae,66,T.Pe,af.pl,g,ai,aj,2,qY am,an.n2,16,g,m,19,true,2,o.same Y,NT _,13,f,_,i,i,29,U,136);rw[Ta];refine(3,O.Aa rfl,5);rw[Af];congr 3;apply Tb;intro x hx;by_cases e:x=i
   .subst e;rw[bE,fF,gZ,Af0];unfold GA;rw[fF]
   rw[bN];by_cases ax:x=4\/x<i
   .rw[mK ax,gZ]
   rw[mM ax,fF]
  rintro σ N ⟨C,v6,rfl,O,U⟩;refine(19,3,O,5);rw[U];congr 3
 rintro σ u ⟨B,v4,C,v6,rfl,fr,D⟩;exact k u fr D
theorem Aqh(a:BR)(L:Nat)(ws:aB):KF a L ws=ws.reverse.foldl (λQ x=>mJX a) L:=by unfold KF;rw[List.foldr_eq_foldl_reverse]
def Aqi(t:Aw):Sp:=λvs H Q _=>∃(Hs:Hp)(p P SA f l sh lt:Addr)(a:BR)(F L later:bD)(S:BU),vs=[aS,iW,eR,mF sh,mF lt]/\mHd Hs/\mEy Hs/\ aFq /\Hs f=none/\Hs l=none/\f≠l/\H f=tL F/\H l=mBa L/\DE t Hs sh S/\EB S/\S.A2.length<=1000/\Hs lt=tL later/\
 ∀H',tM aI6 ->H' f=mKP (aW7).1->H' l=mGr iv (Be (aW7).2 4)-> cU
theorem PY:AD ["self","finishing","led_places","shape","later","places","weight"] aL6 (A0 Aa1):=aG
theorem Aqj(T:aD):A4 P w K mg base A9 2 t.Ni t.AbO aL6 (Aqi t):=by
 refine oW T.Ni.F.ok PY
 .obtain⟨Hs,p,d,SA,f,l,sh,lt,g,F,L,later,S,rfl,_⟩:=h;rfl
 obtain⟨Hs,p,d,SA,f,l,sh,lt,g,F,L,later,S,rfl,⟨ac,ae,af,ag⟩,ah,j,ai,aj,ak,hf,al,⟨m,am,o,q⟩,r,an,ao,k⟩:=h;obtain⟨_,ap,aq,ar,as,au,av,_⟩:=id ah;obtain⟨aw,ax,ay⟩:=T.LZ;refine(_,(Ao (AU (qR dE) (Ak (sA PY.nd (qQ bI (qQ dE fB)))
  (Ak (rJ (Zx rfl T.AcN (mT (mDV dE fB))) (oC 6 PY.nd) (Ao (sA PY.nd (mPW (mPX bQ cC)))))
  (Ao (mHe aW dE bQ)))) (Ao (rJ (mGg (vK (nT ax ay))) (oC 6 PY.nd) (Ao (mHe aQ cC (qQ bI (mNB (oV cC dE))))))))),5)
 have toS:∀H',tM aI6 ->Ab Hs H':=λH' a=>a.JE j (λc z=>z.elim (λz=>z▸ai) (λz=>z▸aj));refine(0,94,_,mH (_,nD j q,2),5);by_cases e:S.A2=[]
 .have u:oO aIU.isEmpty:=(qF e);rw[u];refine cD;refine(8,(5),2,4,4,5);refine QI (lo:=0) (n:=5) (λi σ B=>∃(v6:bO),σ=[bP,kE,mG l,mG sh,mG lt,none,v6]/\Fr aI6 H B/\B l=H l/\B f=mKP (λw=>if w<i then F w|||xZ (BE w S.Bk) else F w))
   (58,86,2,hf) ?_ ?_
  .rintro i σ B C ⟨v6,rfl,D,az,G⟩;rw[Int.zero_add];have I:=toS B D;have a0:BE i S.Bk<5:=by
    by_cases a1:i=4
    .subst a1;rw[NS];omega
    have:=Jw (a:=i) (b:=S.Bk) aA r.1;omega
   refine(16,f,_,i,0,2,mN G,Td _ aA,40,155,i,S.Bk,2,lt,36,nD I ao,SV _ a0,13,f,_,i,i,29,G,136);rw[Ta];refine(0,D.Aa aZ,by rw[nQ ak];exact az,5);rw[Af];congr 3;apply Tb;intro x hx;by_cases e:x=i
   .subst e;rw[bE,fF,gZ]
   rw[bN];by_cases M:x<i
   .rw[mK M,gZ]
   rw[mM M,fF]
  rintro σ B ⟨v6,rfl,D,az,G⟩;refine k B D ?_ ?_
  .rw[G];unfold G9;rw[bU];rfl
  rw[az,al];unfold G9;rw[bU]
 have u:pG aIU.isEmpty:=by
  cases h:S.A2 with
  |nil=>exact nL h e
  |cons=>rfl
 rw[u];have a2:aWC:=by refine mPr e;rw[ArX,ArY,<-Awg,Aud e];rfl
 have a3:=NU e r.2;refine Au (16,94,0,am,36,nD j q,a2,lt,36,nD j ao,SV _ aA,5);refine(0,94,16,am,0,nD j q,λN a4=>?_);rw[Afj];have O:Ab H aOy:=mP a4;have U:(aOy) N=some aW8:=Af;have a5:Fr aI6 H aOy:=mCB O;have a6:=mC O hf;have a7:=mC O al;generalize Aa H N aW8=H1 at O U a5 a6 a7;have I:=toS H1 a5;refine(mCC N U);refine Fn (J:=L2.Rr K N aB8.length) S.A2.dropLast.length (λi σ B=>∃(v6:bO),B=H1/\σ=[bP,kE,mG l,mG sh,mG lt,some (.int (((S.A2.dropLast.reverse.take i).foldl (λQ x=>mJX g) (xZ (S.A2.getLast?.getD 0)):Nat):Int)),v6]) aG3
  (λi σ B C (_,e,_)=>(mO4 C U aB8.length)) (λσ B _=>by show aB8.length<=S.A2.dropLast.length;rw[ArX];exact aF) ?_ ?_
 .rintro i σ B y a8 C ⟨v6,rfl,rfl⟩ ⟨rfl,hy⟩;have Y:=xQ mN U;rw[ArY,ArX] at Y;obtain⟨x,hx,rfl⟩:mPs S.A2.dropLast.reverse[i]?:=by
   rw[List.getElem?_reverse C]
   cases e:S.A2.dropLast[S.A2.dropLast.length - 1 - i]? with
   |none=>rw[e] at Y;cases Y
   |some x=>rw[e] at Y;exact(uA x Y)
  refine(7,ac,ae,0,mC I af,66,T.Pe,ag.pl,d,ap,aq,2,mC I au,av.n2,16,72,Pu (r.2 x (mPt (mLH aFa))),d,g,19,99,2,ah.same I,NT _,aWD,2,5);rw[AsA,hx,At4];rfl
 rintro σ B ⟨v6,rfl,rfl⟩;rw[<-AvC,AsC,<-Aqh];refine(16,155,l,_,S.Bk,0,2,mN a7,Td _ (zP r.1),0,13,l,_,S.Bk,S.Bk,29,a7,by rw[Tc];exact Xg (zP r.1),5);rw[Ta];refine k _ (a5.Aa dZ) ?_ ?_
 .rw[Ah ak,a6];unfold G9;rw[bN]
 rw[Af];unfold G9;rw[bN];congr 3;apply Tb;intro x hx;by_cases M:x=S.Bk
 .subst M;rfl
 rw[mM M];show L x=if x=S.Bk then _ else L x
 rw[mM M]
def Aqk(t:Aw):Sp:=λvs H Q _=>∃(p P SA:Addr)(a:BR),vs=[aS]/\mHd H/\mEy H/\
 ∀v b c H',aO ->H v=none->H b=none->H c=none->b≠c->H' v=wS b c-> eN=tL (D0 a 0)-> eJ=tL (D0 a 1)->sQ v
theorem Af2:AD (qP "last") cK (A0 Aaz):=aG
theorem Af3(T:aD):A4 P w K mg base A9 2 t.Ks t.AbM cK (Aqk t):=by
 refine oW T.Ks.F.ok Af2
 .obtain⟨p,a,SA,b,rfl,_⟩:=h;rfl
 obtain⟨p,a,SA,b,rfl,⟨c,d,f,g⟩,j,k⟩:=h;obtain⟨_,l,m,ac,ae,n,o,_⟩:=id j;obtain⟨af,ag,ah⟩:=T.AcF;obtain⟨ai,q,r⟩:=T.LZ;refine(_,(Ak (tE Af2.nd (mPW (Ad kQ (oV (nT ag ah) Dw))))
  (Ao (A3 (CV (Ad (vN (AE Lo (tZ aQ) (nT q r)) aHS) (mT (mDU (vK (nT q r))))))))),5)
 refine(124,l,m,2,n,o.n2,124,_,l,m,0,n,35,T.AcA,o.done,a,b,_,(2),true,2,j,4,0,jP,λa1 aj=>?_);have s1:Ab H (nX a1 aI7):=mP aj;have c1:(nX a1 aI7) a1=some aI7:=Af;generalize Aa H a1 aI7=H1 at s1 c1;refine(a1,(4),0,2,c1,137,λa2 ak=>?_);have u:mCD H1 a2 aOz:=Af;have s2:Ab H (Aa H1 a2 aOz):=oR s1 ak;generalize Aa H1 a2 aOz=x at s2 u;refine(jP,λy al=>?_);have z:Ab x (nE x y [cB]):=mP al;have B:mAa x y [cB]:=Af;generalize Aa x y aFr=C at z B;refine(a2,y,8,mC z u,B,(by show 4+1<=sizeLine;decide),λD h4=>?_);have am:(oX (4:Int).toNat [mKQ mQ b Int]).flatten++[cB]=iv (Be (D0 b 0) 5):=rfl;rw[am];have G:Ab C (Aa C D (mCE 0)):=mP h4;have I:mCD C D (mCE 0):=Af;generalize Aa C D (mCE 0)=J at G I;have s4:=pR s2 z G;refine(jP,λL an=>?_);have M:Ab J (nE J L [cB]):=mP an
 have ao:mAa J L [cB]:=Af;generalize Aa J L aFr=N at M ao;refine(8,L,(5),0,2,ao,21,21,(mHf 5),λO h6=>?_);have ap:(oX (5:Int).toNat gI).flatten=iv (Be (D0 b 1) 5):=rfl;rw[ap];have aq:Ab N (Aa N O (mCE 1)):=mP h6;have ar:mCD N O (mCE 1):=Af;generalize Aa N O (mCE 1)=as at aq ar;have U:=mX M aq;refine(gL,λv au=>?_);have Y:Ab as (Aa as v (wT D O)):=mP au;have n5:=BL M h6;exact k v D O _ (pR s4 U Y) (BL s4 (BL U au)) (BL s2 (BL z h4)) (BL s4 n5) (λe=>by rw[<-e,I] at n5;cases n5) Af (nP Y U I) (qY ar)
structure LV(H:Hp)(f0 f1 g0 g1:Addr)(c:Nat->FL):Prop where
 a0:H f0=some (zY pT (c 0).1)
 a1:H f1=some (zY pT (c 1).1)
 b0:H g0=some (pT (Be (c 0).2 4))
 b1:H g1=mBa (c 1).2
structure Te(f0 f1 g0 g1:Addr):Prop where
 a:f0≠f1
 b:f0≠g0
 c:f0≠g1
 d:f1≠g0
 e:f1≠g1
 f:g0≠g1
def B4(f0 f1 a g1:Addr):aC1:=λc=>c=f0\/c=f1\/c=a\/c=g1
theorem LV.same(h:aI8)(s:aO):LV H' f0 f1 g g1 c:=(nH h.a0,nH h.a1,nH h.b0,nH h.b1)
theorem LV.congr(h:aI8)(i:c 0=d 0)(j:c 1=d 1):LV H f0 f1 g g1 d:=(i▸h.a0,j▸h.a1,i▸h.b0,j▸h.b1)
theorem LV.Aql(h:aI8)(d:mKR g)(fr:tM (uY f0 g))(i:H' f0=tL x.1)(j:H' g=mBa x.2):LV H' f0 f1 g g1 (mPY 0):=
 (i,fr _ _ h.a1 (by rintro(e|e);exact vG d.a;exact d.d e),j,fr _ _ h.b1 (by rintro(e|e);exact vG d.c;exact vG d.f))
theorem LV.Aqm(h:aI8)(d:mKR g)(fr:tM (uY f1 g1))(i:H' f1=tL x.1)(j:H' g1=mBa x.2):LV H' f0 f1 g g1 (mPY 1):=
 (fr _ _ h.a0 (by rintro(e|e);exact d.a e;exact d.c e),i,fr _ _ h.b0 (by rintro(e|e);exact vG d.d;exact d.f e),j)
theorem LV.pick(h:mHg H i c)(d:mKR i){m:Nat}(hm:m<=1):∃f g,mKt f0 f1=kE /\mKt i g1=mG g/\H f=tL (c m).1/\H g=mBa (c m).2/\f≠g/\B4 f0 f1 i g1 f/\B4 f0 f1 i g1 g/\
 ∀(x:FL)(H':Hp),tM (uY f g)->H' f=tL x.1->H' g=mBa x.2->LV H' f0 f1 i g1 (λk=>if k=m then x else c k):=by
 rcases(by omega:wU m) with rfl|rfl
 .exact(f0,i,cN,cN,h.a0,h.b0,d.b,aZ,oA mI aZ,mPZ h.Aql)
 exact(f1,g1,dW,dW,h.a1,h.b1,d.e,mI aZ,mI aLn,mPZ h.Aqm)
def JF(t:Aw)(H:Hp)(SA:Addr)(S:iI):Prop:=∃a:aP,H SA=aC2 /\a.length=S.length/\∀(i:Nat)(q:Addr),a[i]? =dA -> aOA
def inn(b:BR)(later:kN)(a:Wd)(st:FL):Nat->FL
 |0=>st
 |1=>G9 b (xZ 0) st a.DF
 |_=>mOo b
def Aqo(t:Aw):Sp:=λvs H Q _=>∃(p P SA lv:Addr)(a:BR)(S:iI)(later:kN),vs=[aS,mF lv]/\mHd H/\mEy H/\mHh H/\ aOB /\KM H lv later/\
 ∀v b c H',aO ->H v=none->H b=none->H c=none->H' v=wS b c-> eN=mP0 0-> eJ=mP0 1->sQ v
theorem Os:AD ["self","later","view","led","sort","shape","finishing"] aL5 (A0 Aa0):=aG
theorem Aqp(T:aD):A4 P w K mg base A9 3 t.Nh t.AbN aL5 (Aqo t):=by
 refine oW T.Nh.F.ok Os
 .obtain⟨p,ac,SA,lv,d,S,later,rfl,_⟩:=h;rfl
 obtain⟨p,ac,SA,lv,d,S,later,rfl,ae,af,ag,ah,⟨m0,ai,aj,ak,al⟩,k⟩:=h;obtain⟨am,an,ao,ap⟩:=id ae;obtain⟨aq,ar,as,au⟩:=ag;obtain⟨av,aw,ax⟩:=T.LZ;refine(_,(Ak (pY Os.nd (mP1 T bR))
  (Ak (rL Os.nd (CV (mKj (mDU (nT aw ax)))))
  (Ak (rJ aAH (oC 4 Os.nd) (Ao (rJ (AeM (K:=K) false false rfl rfl T.K0 (oV hM aQ)) (tF 5 Os.nd 6) (Ao (Cu (Bx aL T.Em.c T.Ni.h (Aqj T) bR T.Ni.b .nil Ay (Ad (sN aW hM) (Ad (sN bF hM) (pS 5 6)))))))))
  (Ak aW9
  (Ak aW9
  aBN))))),5)
 refine(113,ao,ap.n1,p,ac,SA,d,2,185,λv f0 f1 H1 s1 ay az a0 a3 cv l o=>(jP,λa1 a4=>?_));have a5:Ab H1 (nE H1 a1 [cB]):=mP a4;have a6:mAa H1 a1 [cB]:=Af;generalize Aa H1 a1 aFr=a7 at a5 a6;refine(a1,(4),0,2,a6,137,λr a8=>?_);have a9:(oX (4:Int).toNat gI).flatten=iv (Be aDi 4):=rfl;rw[a9];have ba:Ab a7 (Aa a7 r aDx):=mP a8;have bb:wW a7 r aDx:=Af;generalize Aa a7 r aDx=bc at ba bb;refine(jP,λa2 h4=>?_);have bd:Ab bc (nE bc a2 [cB]):=mP h4;have be:mAa bc a2 [cB]:=Af;generalize Aa bc a2 aFr=bf at bd be;refine(a2,(4),0,2,be,137,λg1 bh=>?_);rw[a9];have bi:Ab bf (Aa bf g1 aDx):=mP bh;have bj:wW bf g1 aDx:=Af;generalize Aa bf g1 aDx=bk at bi bj;refine(gL,λld h6=>?_);have u:Ab bk (Aa bk ld aOC):=mP h6;have B:wW bk ld aOC:=Af;generalize Aa bk ld aOC=bl at u B;have bm:=mX a5 ba;have bn:=mX bd bi;have C:=pR bm bn u;have bo:=mX s1 C;have bp:nA bc g1:=BL bd bh;have bq:Te f0 f1 r g1:=by have br:nA H1 r:=BL a5 a8;have bs:nA H1 g1:=BL bm bp;exact(a3,(λe=>by rw[<-e,l] at br;cases br),(λe=>by rw[<-e,l] at bs;cases bs),(λe=>by rw[<-e,o] at br;cases br),(λe=>by rw[<-e,o] at bs;cases bs),(λe=>by rw[<-e,bb] at bp;cases bp))
 have bt:LV bl f0 f1 r g1 (λm=>(D0 d m,λ_=>0,)):=(mC C l,mC C o,aOD,mC u bj);have bu:∀c,B4 f0 f1 r g1 c->H c=none:=by
  rintro c (e|e|e|e)<;>subst e
  .exact az
  .exact a0
  .exact(BL (mX s1 a5) a8)
  exact(BL (mX s1 bm) bp)
 have bv:=mC C cv;have bw:¬B4 f0 f1 r g1 v:=by
  rintro(e|e|e|e)
  .rw[<-e,cv] at l;cases l
  .rw[<-e,cv] at o;cases o
  .have:=aOD;rw[<-e,bv] at this;cases this
  have:=mC u bj;rw[<-e,bv] at this;cases this
 have bx:¬B4 f0 f1 r g1 ld:=by
  rintro(e|e|e|e)
  .have:=mC C l;rw[<-e,B] at this;cases this
  .have:=mC C o;rw[<-e,B] at this;cases this
  .have:=aOD;rw[<-e,B] at this;cases this
  have:=mC u bj;rw[<-e,B] at this;cases this
 have toS:∀H',Fr aFs bl H'->Ab H H':=λH' a=>a.JE bo bu;clear s1 a5 ba bd bi u bm bn C a6 bb be bj l o cv a4 a8 h4 bh h6;refine(7,am,an,0,mC bo ao,66,T.Ac8,ap.so,SA,2,(mCc bo ar),5);refine E4 (K:=K) (a:=SA) (xs:=nF aq.map) (λj σ bz=>∃(v4 D v6:bO),σ=[bP,mG lv,mG v,mG ld,v4,D,v6]/\Fr aFs bl bz/\mHg bz r (λm=>aOE))
  (162,86,bt) (λj σ bz _ (_,_,_,_,fr,_)=>mN (toS _ fr _ _ ar)) ?_ ?_
 .rintro j y σ bz hj ⟨v4,D,v6,rfl,fr,G⟩;rw[ArY] at hj;obtain⟨q,hq,rfl⟩:mG1 aq[j]?:=by
   cases e:aq[j]? with
   |none=>rw[e] at hj;cases hj
   |some x=>rw[e] at hj;exact lU
  have b0:j<S.length:=(wM as hq);obtain⟨b1,sh,b2,b3,M,b4,b5,b6,b7,b8⟩:=au j q hq;obtain⟨b9,ca⟩:=ah j b0;have cb:pC iM[j]? aBY.wd:=(by rw[ArY,mJ b0];unfold AH;rw[Asv,mJ b0];rfl);have cc:=toS _ fr;refine(0,q,_,b1,3,mC cc b4,47,T.Pk,30,sh,lv,3,mHi (mC cc b5),mHi (mC cc aj),5);refine Fn (J:=SI K false false sh lv) 2 (λi σ I=>∃(D v6:bO),σ=[bP,mG lv,mG v,mG ld,mG q,D,v6]/\Fr aFs bl I/\mHg I r (λm=>if m=aBY.wd.vf then inn d later aBY.wd aOE i else aOE))
   (3,fr,G.congr aXa aXa) ?_ ?_ ?_ ?_
  .rintro i σ I cd ⟨D,v6,rfl,L,ce⟩;have N:=toS _ L;exact(48,mCF b5,mCF aj,mG2 b2 b3 cd,mG2 m0 ai cd)
  .rintro σ I ⟨D,v6,rfl,L,ce⟩;have N:=toS _ L;exact(19,mCF b5,mCF aj,mH aF)
  .rintro i σ I y cf cd ⟨D,v6,rfl,L,ce⟩ ⟨cg,x,ch,rfl,cj,rfl,hx,hy⟩;have N:=toS _ L;have hx':=hx _ (mCF b5);have ck:=xQ mCF aj;obtain⟨pi,O,rfl,rfl,cl,cm⟩:∃pi O,x= mF pi/\ch= mF O/\wK pi (aBY.wd.sh i)/\H O=some (zY pT (xZ i)):=by
    rcases(by omega:wU i) with rfl|rfl
    .exact(b2,m0,198,b6,ak)
    exact(b3,ai,198,b7,al)
   have cn:Ab I (Aa I cg aOF):=mP cj;have co:wW I cg aOF:=Af;have U:=L.same cn;have cp:=ce.same cn;generalize Aa I cg aOF=cf at cn co U cp;have Y:=toS _ U;obtain⟨f,g,cq,eg,hf,hg,cr,cs,bg,step⟩:=cp.pick bq b9.vf;refine(cg,0,nO co,2,3,8,113,qY ao,ap.n3,114,v,36,mKS U,cq,114,ld,36,mKT U,eg,16,5);refine(H,p,ac,SA,f,g,pi,O,d,19,xZ i,0,185,Y,bu _ cs,bu _ bg,cr,hf,hg,cl,b9.sh i,ca i,cm,λH' ct cu cx=>(3,U.trans (ct.As λc hc=>hc.elim (λe=>e▸cs) (λe=>e▸bg)),(step _ _ ct cu cx).congr ?_ ?_))
   all_goals
    split
    .rename_i e;rw[<-e];simp;rcases(by omega:wU i) with rfl|rfl<;>rfl
    rfl
  rintro σ I ⟨D,v6,rfl,L,ce⟩;refine(_,3,L,ce.congr ?_ ?_)
  all_goals
   rw[AsA,cb,Atp,At4];show _=J5 _ _ _ _ _;unfold J5;split
   .rename_i e;rw[vG mK];rfl
   rename_i e;rw[aLs]
 rintro σ bz ⟨v4,D,v6,rfl,fr,G⟩;have hlen:iM.take (nF aq.map).length=S.map Cr.wd:=(by rw[ArX,as,<-ArX (f:=Cr.wd),AsC]);rw[hlen] at G;have cc:=toS _ fr;refine(113,mC cc ao,ap.n4,0,v,36,mKS fr,cN,0,ld,36,mKT fr,cN,H,p,ac,SA,f0,r,d,3,185,cc,az,bq.b,G.a0,G.b0,λcf U cy=>?_);have cz:Fr aFs bl cf:=fr.trans (U.As λc hc=> mH hc);have Y:=toS _ cz;refine(113,qY ao,ap.n4,0,v,36,mKS cz,dW,0,ld,36,mKT cz,dW,H,p,ac,SA,f1,g1,d,3,185,Y,a0,bq.e,mV U G.a1 (λe=>vG bq.a),mV U G.b1 (λe=>vG bq.c),λc0 c1 c2=>?_);have c3:Fr aFs bl c0:=cz.trans (c1.As λc hc=> mBm hc);exact(0,k v f0 f1 c0 (toS _ c3) ay az a0 (mV c3 bv bw) (mV c1 cy bq.a) c2)
theorem HN.same(h:aOA)(s:aO):HN t H' q S i:=by obtain⟨dx,sh,g,j,M,a1,a2,u,v,y⟩:=h;exact(dx,sh,g,j,M,nH a1,nH a2,u.same s,v.same s,y)
theorem JF.same(h:mHh H)(s:aO):JF t H' SA S:=by obtain⟨g,j,u,v⟩:=h;exact(g,nH j,u,λi q e=>(v i q e).same s)
def JG(VA:Addr)(H:Hp)(v:Addr)(f:kN):Prop:=∃a b,a≠VA/\b≠VA/\v≠VA/\H v=oI aAA /\H a=tL (f 0)/\H b=tL (f 1)
theorem JG.at_(h:JG VA H v f):KM H v f:=let(g,i,_,_,_,a,b,c):=h;(g,i,a,b,c)
theorem JG.fr(h:JG VA H v f)(s:yE VA H H'):JG VA H' v f:=let(g,i,j,n1,n2,a,b,c):=h;(g,i,j,n1,n2,mV s a n2,mV s b j,mV s c n1)
def Aqq(t:Aw):Sp:=λvs H Q _=>∃(Hs:Hp)(p dx P SA:Addr)(a:BR)(S:iI)(Aq:Nat),vs=[aS,mF P,mF SA,xY mE]/\ aFq /\Hs p=none/\H p=rM t.DD/\mEy Hs/\mHh Hs/\ aOB /\Aq<=1000/\
 ∀(VA:Addr)(fs:dO)(H':Hp)(b:aP),tM eX->H' p=pI t.DD fs->nY ("views":Str)=mG VA->H' VA=pF b.map->b.length=Aq+1->(∀(r:Nat)(v:Addr),b[r]? =bJ ->KM H' v (GB a iM r))-> cU
theorem Aqr:AD aHr aHr (A0 Aay):=aG
theorem Aqs(T:aD):A4 P w K mg base A9 4 t.Ng t.AbL aHr (Aqq t):=by
 refine mBZ T.Ng.F.ok Aqr
 .obtain⟨Hs,p,dx,f,SA,g,S,Aq,rfl,_⟩:=h;rfl
 obtain⟨Hs,p,dx,f,SA,g,S,Aq,rfl,ab,ac,hp,ae,af,ag,ah,k⟩:=h;refine(_,(Ak aAG
  (Ak lQ
  (Ak (oF (By (mT (mP1 T dR))))
  (Ao (Ka Asq (pB DB aC8 bF) (Ao (Cu (mEk (mT (Bx aL T.Em.c T.Nh.h (Aqp T) dR T.Nh.b .nil Ay (mT (qQ aX fB)))))))))))),5)
 refine(69,66,T.Pe,52,66,T.Ac8,189);rw[B1];have ai:∀u,Fr eX H (qV u):=λu=>aOG;have sp:∀u,Ab Hs (qV u):=λu=>(ai u).JE ab (mBb ac);refine(193,88,p,f,SA,g,2,(mP2 Af),mD4 (sp _),λv aj ak H1 s1 al am an _ cv ao ap=>(jP,λVA i=>?_));have aq:=qS (Af (H:=H) (a:=p));have s2:Ab H1 aXb:=mP i;have ar:mAa H1 VA [mF v]:=Af;have as:Fr eX H aXb:=((ai _).same s1).same s2;have j:=qA aq;have l:v≠VA/\aj≠VA/\ak≠VA:=(AR cv i,AR ao i,AR ap i);have au:nA H VA:=by have o:=BL s1 i;have:VA≠p:=λe=>aW5;rwa[aDr] at o
 have av:=qA cv;have aw:=qA ao;have ax:=qA ap;have ay:VA≠p:=λe=>(by rw[e,aq] at i;cases i);generalize Aa H1 VA (.Ac [mF v])=y at s2 ar as j av aw ax;refine(97,j,66,T.Pf,aAM,5);have B:Fr eX H aFt:=as.Aa rfl;have az:wO y aOH:=Af;have a0:(aFt) VA=some (.Ac [mF v]):=(oN ay ar);have np:∀c C,y c=mB C->(∀d fs,C≠ .Ag t.DD d fs)->(aFt) c=some C:=λc C e hw=>by rw[Ah (λz=>by rw[z,j] at e;exact mC hw aAm.symm)];exact e
 have a1:JG VA aFt v (GB g iM 0):=(aj,ak,l.2.1,l.2.2,l.1,mHj np av,mHj np aw,mHj np ax);show rH Uf aFt;generalize Aa y p aOH=a2 at B az a0 a1;refine(λm σ D=>∃G:aP,m=Aq+1 - G.length/\σ=aXc /\yE VA a2 D/\D VA=pF G.map/\1<=G.length/\G.length<=Aq+1/\∀(r:Nat)(v:Addr),mP3 D,(Aq,[v],9,86,a0,9,9,λr C e=>?_),5)
 .match r,e with
  |0,e=>(obtain rfl:v=C:=by simpa using e);exact a1
  |r+1,e=>simp at e
 rintro m σ D ⟨G,rfl,rfl,I,J,L,a3,M⟩;have a4:Ab Hs D:=I.JE (B.JE ab (mBb ac)) (mBb (BL (mX (sp _) s1) i));have N:=mV I az (λe=>vG ay);refine(152,2,VA,0,uU J,0,55);by_cases O:(((nF G.map).length:Nat):Int)<=(Aq:Int)
 .rw[mU O];rw[ArX] at O;obtain⟨U,a5⟩:∃U,G[G.length - 1]? =some U:=(mCW (show G.length - 1<G.length by omega));refine Au (λa6 H'=>∃a7,a7<Aq+1 - G.length/\∃G:aP,a7=Aq+1 - G.length/\a6=aXc /\yE VA a2 H'/\H' VA=pF G.map/\1<=G.length/\G.length<=Aq+1/\∀(r:Nat)(v:Addr),mP3 H',λa6 H' q=>q,5);refine(152,2,pL J,193,N,2,152,30,VA,36,mN J,On (x:= mF U) (λe=>by rw[At2] at e;rw[e] at L;simp at L) (mF7 ArX a5),p,f,SA,U,g,S,GB g iM aOI,2,(mP2 N),mD4 a4,af.same a4,ag,(mC M a5).at_,λv' a8 a9 H' Y ba bb L bc bd be=>?_);have bf:v'≠VA/\a8≠VA/\a9≠VA:=(mO (λe=>by rw[e,J] at ba;cases ba) (λe=>by rw[e,J] at bb;cases bb) (λe=>by rw[e,J] at L;cases L));refine(VA,8,qY J,fU,Aq+1 - (G.length+1),4,G++[v'],9,2,(I.same Y).Aa rfl,23,9,41,λr C e=>?_);have bg:Fr (λc=>c=VA) H' (nE H' VA (nF G.map++[mF v'])):=aOG;by_cases b:r<G.length
  .rw[Ask b] at e;exact(M r C e).fr ((mCB Y).trans bg)
  have bh:=(nS e).1;rw[Asi,AsD] at bh;obtain rfl:r=G.length:=aA;rw[lL,At9] at e;obtain rfl:v'=C:=hS;have bi:GB g iM G.length=NZ g iM (GB g iM aOI):=by obtain⟨n,bj⟩:∃n,G.length=n+1:=(aOI,4);rw[bj];rfl
  rw[bi];exact JG.fr (a8,a9,bf.2.1,bf.2.2,bf.1,bc,bd,be) bg
 rw[mS O];rw[ArX] at O;refine Az (k VA _ D G (λc u e bk=>I c u (uX B bk) (λz=>by rw[z,au] at e;cases e)) N rfl J aA λr v' e=>(M r v' e).at_)
structure DH where
 size:Nat
 Gj:Nat
 ends:Nat
 Hg:Nat
 inner:Nat
 cuts:Nat
abbrev ES(a:DH)(b:Addr):List gG:=[("size",mE (a.size:Int),),("starts",mE (a.Gj:Int),),("ends",mE (a.ends:Int),),("longs",mE (a.Hg:Int),),("inner",mE (a.inner:Int),),("cuts",mE (a.cuts:Int),),("twins",bW,)]
def KO(a:DH)(Dg:Nat)(b c d:Bool):DH:=(169,mEz c a.ends,mEz b a.Hg,if c then a.inner else a.inner|||Dg,mEz d a.cuts)
def Aqt(t:Aw):Sp:=λvs H Q _=>∃(p dx R b d:Addr)(a:DH)(Dg c:Nat)(e:Bool)(es:aK),vs=[aS,mE (Dg:Int),mF R]/\H p=pI t.CI (ES a d)/\H R=oI (bW::es)/\H b=oI [wE c,.bl e]/\sP (qV (mEA (ES (KO a Dg (c==45) (decide (es.length=0)) e) d)))
theorem Aqu:AD aHs aHs (A0 Aa3):=aG
theorem Aqv(T:aD):A4 P w K mg base A9 1 t.Nk t.AbR aHs (Aqt t):=by
 refine T.Nk.F.ok Aqu cM aNZ
 .obtain⟨p,dx,R,g,i,a,Dg,c,l,es,rfl,_⟩:=h;rfl
 obtain⟨p,dx,R,g,i,a,Dg,c,l,es,rfl,hp,m,he,k⟩:=h;obtain⟨n,o,q⟩:=T.V2;refine(_,(Ak (AU (xT aC5) aE8 aE8)
  (Ak (nG (uS (sN aIQ Ar) (nT o q)) aE8)
  (Ao (nG (D9 (sN aIQ Ar)) aE8)))),5)
 have r:R≠p:=λe=>(by rw[e,hp] at m;cases m);have u:g≠p:=λe=>(by rw[e,hp] at he;cases he);have Ga:∀(b:DH),sP (qV (mEA (ES (95,b.Hg,156) i)))->
  Ii aXd (mKU "cuts") Ih {nx:=λ_ H'=>cU,rt:=Q} aXe aXf:=by
  intro b hq;refine(78,dW,0,5)
  cases l with
  |false=>exact Az hq
  |true=>
   refine Au (mHk Af T.Vv);rw[B1];exact hq
 have mid:∀(b:DH),sP (qV (mEA (ES (95,if c==45 then b.Hg|||Dg else b.Hg,156) i)))->
  EL (Ii (Kd (CU QM (mP4 (tC cB)) (tC (nK "-")))) (mKU "longs") Ih) (Ii aXd (mKU "cuts") Ih) {nx:=λ_ H'=>cU,rt:=Q} aXe aXf:=by
  intro b hq;refine(78,cN,79);rw[Sb VQ]
  cases hc:c==45 with
  |false=>
   rw[hc] at hq;exact Az (Ga b hq)
  |true=>
   rw[hc] at hq;refine Au (mHk Af T.Vt);rw[B1];exact Ga (95,b.Hg|||Dg,b.inner,b.cuts) hq
 refine(mF1 R mI (nO m));have v:decide (aXg=mQ 1)=decide (es.length=0):=by
  rw[show decide (aXg=mQ 1)=decide ((nC g::es).length=1) from Fp _ 1,As1];by_cases h:es.length=0
  .rw[mU h,mU aA]
  rw[mS h,aBr]
 rw[v]
 cases x:decide (es.length=0) with
 |false=>
  rw[x] at k;refine Az (mHk hp T.Vu);exact mid (169,a.ends,a.Hg,a.inner|||Dg,a.cuts) k
 |true=>
  rw[x] at k;refine Au (mHk hp T.RG);exact mid (169,a.ends|||Dg,a.Hg,a.inner,a.cuts) k
theorem Aqw(p:hA)(x:Nat)(c:Bq):AN p x [c]=if p c then 1<<<x else 0:=by
 unfold AN;unfold AN
 cases p c<;>simp
theorem Aqx(p:hA)(b:Nat)(A:gB)(c:Bq):vX (A++[c])=if p c then vX A|||1<<<aFW else AN p b A:=by
 rw[Qy,Aqw]
 cases p c<;>simp
def Xh(a:aB)(c:Bq):Bool:=mHl c.place
def FC(b:Nat)(a:aB)(A:gB)(st:Nat):DH:=(A.length,st,AN Gi b A,AN Du b A,AN HX b A,AN (Xh a) b A)
theorem Aqy(b:Nat)(a:aB)(A:gB)(st:Nat)(i j:Nat)(w:Vf.Txt)(hj:j<w.length):
 ((A.length+1,st,aI9.ends,aI9.Hg,aI9.inner,aI9.cuts):DH)=FC b a (A++[aFu]) st:=by
 unfold FC KO;simp only[Aqx,List.length_append,List.length_cons,List.length_nil];have c:Gi aFu=decide (j+1=w.length):=by rfl
 have d:Du aFu=(aMO==45):=rfl;have e:HX aFu= !decide (j+1=w.length):=(by unfold HX;rw[c]);have h4:Xh a aFu=a.contains j:=rfl;grind
theorem Af4(p:hA):∀(A:gB)(b:Nat),(∀c∈A,p c=false)->vX A=0
 |[],_,_=>rfl
 |c::r,b,h=>by
  unfold AN;rw[h c AsG,Af4 p r (b+1) λd hd=>pH h d hd,bS,Nat.or_zero]
theorem Aqz(i c:Nat)(x:Vf.Txt)(h:1<=x.length):AN Dh c aFv=1<<<c:=by
 unfold CD;obtain⟨n,a⟩:∃n,x.length=n+1:=(x.length - 1,4);rw[a,Avj,Asn];unfold AN;rw[Af4 Dh]
 .show(if true=true then _ else _)|||0=_;rw[bE,Nat.or_zero]
 intro d hd;simp at hd;obtain⟨m,_,rfl⟩:=hd;rfl
theorem Af5(j:Nat)(a:aB):DP (mE (j:Int)) (iv a)=a.contains j:=by unfold DP;rw[List.any_map,Aws];apply List.any_congr rfl;intro x;simp only[Function.comp,FM];grind
def Fc(a:aB)(w:Vf.Txt)(j:Nat):List aNu:=(aDR.drop j).map λk=>(w.getD k 0,mHl k,)
theorem Af6{w:Vf.Txt}(h:j<w.length):Fc a w j=(aMO,mHl j,)::Fc a w (j+1):=by unfold Fc;rw[As8 fE];simp
theorem Xi(a:aB)(w:Vf.Txt)(j:Nat):(Fc a w j).length=w.length - j:=by unfold Fc;simp
def HQ(l:aAW):Ky:= .Al aOJ
theorem Aq0(h:HQ l=HQ c):l=c:=by
 injection h with h
 refine(Au3 (λa b h=>?_)).mp h;grind
def ET(H:Hp):aP -> aAW ->Prop
 |[],l=>l=[]
 |e::es,l=>∃x r,l=x::r/\H e=aXh /\ET H es r
theorem ET.keep(hk:aCn):∀{es:aP}{l:aAW},aFw ->ET H' es l
 |[],_,h=>h
 |e::es,l,(x,r,g,i,e3)=>(x,r,g,mC hk i,ET.keep hk e3)
theorem ET.snoc(he:H e=aXh):∀{es:aP}{l:aAW},aFw ->ET H (es++[e]) (l++[x])
 |[],l,h=>by
  obtain rfl:l=[]:=h;exact(x,[],2,he,2)
 |a::es,l,(y,r,g,i,e3)=>by
  subst g;exact(y,r++[x],2,i,ET.snoc he e3)
theorem Af7:∀{es:aP}{l:aAW},aFw ->Ld H aOJ aDy
 |[],l,h=>by
  obtain rfl:l=[]:=h;rfl
 |e::es,l,(x,r,a,b,e3)=>by
  subst a;exact(3,(e,0,b,8,3,mI (x.2,29),2),Af7 e3)
theorem Af8:∀l:aAW,Ky.C2 aOJ <=1
 |[]=>by simp[Ky.C2]
 |x::l=>by
  have:=Af8 l;simp only[List.map_cons,Ky.C2,Ky.depth];omega
theorem Aq1(h:H R=oI aDy)(hp:aFw):Dv H (HQ l) R:=by refine(oH (R,0,h,Af7 hp));have:=Af8 l;unfold HQ;simp only[Ky.depth];omega
def EU(x:Nat):C3:= tH mH x
theorem PZ(h:EU x=EU y):x=y:=by
 injection h with h
 have h:=AtA h;have:=(Eb x x).mpr rfl;rw[h,Eb] at this;exact this
def CY(b n:Nat)(AT:bD):List (C3×V):=aA3.map λx=>(EU (b+x),tH mE (b+AT x),)
theorem Af9(b n:Nat)(AT:bD):yF (n+1)=yF n++[(EU (b+n),tH mE (b+AT n),)]:=by unfold CY;rw[Atl,As7];rfl
theorem Aq2(h:aW6):CY b n f=CY b n g:=AsU λx hx=>by rw[h x aI5]
theorem AfA(b n:Nat)(AT:bD)(h:∀y,y<n->x≠b+y):xN (yF n) (EU x):=by
 cases e:Bc (yF n) (EU x) with
 |none=>rfl
 |some v=>
  obtain⟨y,hy,a⟩:=pA (Mq e);injection a with a _
  exact nL (PZ a).symm (h y (Atj.mp hy))
theorem AfB(b:Nat)(AT:bD):∀(n x:Nat),x<n->Bc (yF n) (EU (b+x))=mHm (b+AT x)
 |0,x,h=>by omega
 |n+1,x,h=>by
  rw[Af9,rH OR (AfA b n AT λy hy=>by omega)];by_cases e:x=n
  .subst e;rw[bE]
  rw[mAD e (mCQ PZ z)];exact AfB b AT n x aA
def rc(a:aB)(c:Bq):List aNu:=Fc a c.way c.place
def KP(a:aB)(C:gB)(AT:bD):Prop:=∀(x:Nat)(c:Bq),C[x]? =bT ->∃d,C[AT x]? =mB d/\rc a c=rc a d
def KQ(b:Nat)(a:aB)(C:gB)(c:bH):Prop:=∀(l:aAW)(v:V),Bc c (HQ l)=bJ ->∃y d,C[y]? =mB d/\v= tH mE (b+y)/\rc a d=l
theorem KP.snoc(h:KP g C AT)(hy:(C++[c])[y]? =mB d)(he:rc g c=rc g d):KP g (C++[c]) (mP5 C.length):=by
 intro x e hx;by_cases i:x<C.length
 .rw[Ask i] at hx;obtain⟨d',j,q⟩:=h x e hx;grind
 grind
theorem KQ.BM(h:KQ b g C i)(c:Bq):KQ b g (C++[c]) i:=by intro l v j;obtain⟨y,d,q,s,u⟩:=h l v j;grind
theorem KQ.new(h:KQ b g C i)(c:Bq)(j:xN i (mEB c)):KQ b g (C++[c]) (i++[(mEB c,tH mE (b+C.length),)]):=by
 intro l v q;rw[rH OR j] at q;by_cases e:HQ l=mEB c
 .rw[bU] at q;refine(C.length,c,5,(Ase q).symm,(Aq0 e).symm);simp
 rw[bN] at q;exact h.BM c l v q
def Aq3(K:PySem.W.Frag)(t:Aw):Sp:=λvs H Q _=>∃(p dx a ca:Addr)(b i:Nat)(f:dD)(d:aB),vs=[aS,aI,mF ca,aBT]/\H p=rM t.CI/\tV (sv f)/\mGo ca d/\b+cV.length<=500/\(∀w∈f,1<=w.length/\w.length<=1000)/\
 ∀(e:Addr)(AT:bD)(H':Hp),(mP6 H')->H e=none->H' p=some (mEA (ES (FC b d cV (AN Dh b cV)) e))->H' e=rK (yF cV.length)->KP d cV AT-> cU
structure Gb(t:Aw)(p dx tA kA b:Nat)(cp:aB)(H H1:Hp)(C:gB)(st:Nat):Prop where
 keep:∀c o,c≠p->H c=aH ->H1 c=some o
 at_:H1 p=some (mHn (FC b cp C st) tA)
 tw:∃AT,H1 tA=rK (yF C.length)/\KP cp C AT
 kn:∃kvs,H1 kA=aCA /\kvs.length<=C.length/\KQ b cp C kvs
theorem AfC:∀{es:aP}{l:aAW},aFw ->es.length=l.length
 |[],l,h=>by
  obtain rfl:l=[]:=h;rfl
 |e::es,l,(x,r,a,b,e3)=>by
  subst a;rw[As1,As1,AfC e3]
theorem Gb.same(h:Gb t p dx g i b j H H1 C st)(s:tD q):Gb t p dx g i b j H q C st:=
 (λc o hc e=>nH (zT h.keep),nH h.at_,let(AT,a,b):=h.tw;(AT,nH a,b),let(u,a,b):=h.kn;(u,nH a,b))
theorem Aq4(h:j<x.length):mAV (Fc a x 0).take (mB9 j,mHl j,):=by rw[AsA];congr 1;unfold Fc;grind
abbrev Aq5:List Str:=aXi
theorem JH:AD aXi aL8 (A0 Vc):=aG
theorem Aq6(T:aD):A4 P w K mg base A9 2 t.Nj t.AbQ aL8 (Aq3 K t):=by
 refine oW T.Nj.F.ok JH
 .obtain⟨p,dx,ac,ca,b,i,f,g,rfl,_⟩:=h;rfl
 obtain⟨p,dx,ac,ca,b,i,f,g,rfl,hp,ae,af,hb,hw,k⟩:=h;have hu:=aBQ;refine(_,(Ak aAT
  (Ak aAT
  (Ak aAT
  (Ak aAT
  (Ak aAT
  (Ak aAT
  (Ak aIC
  (Ak (qE JH.nd OU)
  (Ao (BS Asq rfl aEH (oC 5 JH.nd) (Ak (GW aL aXj FX)
  (Ak (A6 (i:=6) JH.nd rfl eG (mP7 (Ad (Dk rfl JH.nd (AdE rfl T.Ma (mT bQ)) (BZ (own:=[("place",7,),("sign",8,)]) (xP Aq5 Vc)) (pZ (tF 7 JH.nd 8)) cI (λ_ _ _ _ _=>(CV (mAT kJ (Hy (rZ V6) gJ aW aGE))))) Ai)))
  (Ao (Ka Asq (qR cC) (Ak (mHc JH.nd aXj)
  (Ak (Cu (Bx aL T.De.c T.Nk.h (Aqv T) bR T.Nk.b .nil Ay (pS 9 6)))
  (Ak (mB0 aX aAU (WT hu bI cC aAU aCV))
  (Ak aM7
  (Ao (tG JH.nd (mF6 Ak8 cC))))))))))))))))))))),5)
 refine(97,hp,50,T.ND,bB,97,Af,50,T.Vs,189);rw[B1];refine(mEC T.RG 2);rw[B1];refine(mEC T.Vt 3);rw[B1];refine(mEC T.Vu 4);rw[B1];refine(mEC T.Vv 5);rw[B1];refine λr ag=>?_;have ah:r≠p:=λe=>(by rw[e,Af] at ag;cases ag);have ai:nA H r:=(by rwa[Ah ah] at ag);rw[mA5 ah];refine(mEC T.NE 6);rw[B1];refine λB aj=>?_;have ak:B≠p:=λe=>(by rw[e,Af] at aj;cases aj);have al:nA (nX r jE) B:=(by rwa[Ah ak] at aj);have am:B≠r:=λe=>(by rw[e,Af] at al;cases al);have an:nA H B:=(by rwa[Ah am] at al);have ao:Gb t p dx r B b g H (Aa (nN (nX r jE) (mKV [] 0)) B iD) [] 0:=by refine(λc o hc e=>by rw[nZ an,gW,nZ ai];exact e,by rw[nQ ak,Af],(aDi,by rw[nQ am,Ah ah,Af];rfl,λx c h=>by simp at h),[],Af,aR,λl v h=>by cases h)
 refine(mKW ac (_,mKX ae ao.keep));refine E4 (K:=K) (a:=ac) (xs:=sv f) (λk σ H1=>∃ap v6 aq,σ=[bP,mG ac,mG ca,mA3 mW,mG B,ap,v6,none,none,aq]/\Gb t p dx r B b g H H1 (mCG k) (AN Dh b (mCG k)))
  (162,2,ao) (λk σ H1 _ (_,_,_,_,ar)=>mKX ae ar.keep) ?_ ?_
 .rintro as y σ H1 hk ⟨ap,v6,aq,rfl,C⟩;rw[ArY] at hk;obtain⟨x,hx,rfl⟩:∃x,f[as]? =aY /\y= .str aC9:=by
   cases e:f[as]? with
   |none=>rw[e] at hk;cases hk
   |some x=>rw[e] at hk;exact(uA x hk)
  have au:mCG (as+1)=mCG as++CD i x:=by unfold Bd;rw[AsA,hx];simp
  obtain⟨av,aw⟩:=hw x aFa;have ax:aFv.length=x.length:=(by unfold CD;simp);have hlen:(mCG as).length+x.length<= cV.length:=by
   have ay:(mCG (as+1)).length<= cV.length:=by
    conv=>rhs;rw[<-Avs (as+1) f]
    unfold Bd;rw[List.flatMap_append,Asi];omega
   rw[au,Asi] at ay;omega
  rw[au];generalize Bd i (wZ as)=D at*;have az:=C.at_;refine(17,az,50,T.Vs,30,17,az,115,(1),b+D.length,29,aIy,13,19,az,(qZ 7),5);have a0:Gb t p dx r B b g H (nN H1 (mKV D kT)) D kT:=by obtain⟨AT,t1,a3⟩:=C.tw;obtain⟨G,a4,a5,a6⟩:=C.kn;exact(λc o hc e=>by rw[gW];exact zT C.keep,Af,(mP8 ah),G,by rw[Ah ak];exact a4,a5,a6)
  have a7:pX aC9.length:=fT;refine(0,aC9,2,λL a8=>?_);have a9:∀(ba:Hp)(l bb:aK),mHo ba D ->ba L=nV l->Gb t p dx r B b g H (nE ba L bb) D kT:=λba l bb h bc=>by
   obtain⟨AT,t1,a3⟩:=h.tw;obtain⟨G,a4,a5,a6⟩:=h.kn;refine(λc o hc e=>?_,by rw[mCx Ah h.at_ bc];exact h.at_,(mP8 (λe=>by rw[e,bc] at t1;cases t1)),G,by rw[Ah (λe=>by rw[e,bc] at a4;cases a4)];exact a4,a5,a6);have bd:c≠L:=λz=>by
    have:=zT a0.keep;rw[z] at this;have q:=this.symm.trans a8
    cases q
   rw[Ah bd];exact zT h.keep
  refine EA (J:=Sq aC9) x.length (λj I=>mHo I D /\∃es:aP,I L=pF es.map/\es.length=j/\ET I es ((Fc g x 0).take j))
   (a0.same (mP a8),[],Af,29) (λj I hj _=>by show j<x.toArray.size;simpa using hj) (λI _=>by show x.toArray.size<=_;simp) ?_ ?_
  .rintro j I y be hj ⟨bf,es,bg,bh,bi⟩ ⟨bj,M,rfl,bk,rfl,bl⟩;have bm:mB9 j=M:=by
    have:pC x[j]? M:=(mR bl);rw[Asv,this];rfl
   have bn:Ab I (Aa I bj aOK):=mP bk;have bo:mCD I bj aOK:=Af;generalize Aa I bj aOK=be at bn bo;have bp:=bf.same bn;have bq:=bi.keep (λb xs e=>bn b _ e);refine(mDO bj bo GG);refine(40,ca,0,mH (mKX af bp.keep),2,(by rw[Atw,AsL];intro _ _;rfl),gL,λe he=>?_);simp only[Af5];have br:Ab be aOL:=mP he;have bs:=nP br bn bg;refine(_,bs,fU,a9 _ _ _ (bp.same br) bs,es++[e],23,by simp[bh],5);rw[Aq4 hj,bm];have kp:∀b xs,(aOL) b=fL ->(Aa aOL L (.Ac (aDy++[aDm]))) b=some iY:=λb xs h=>by rw[mP9 bs];exact h
   exact ET.snoc (mC kp Af) ((bq.keep (λb xs h=>br b _ h)).keep kp)
  rintro I ⟨bf,es,bg,bh,bi⟩;rw[AsW (qT Xi)] at bi;refine(L,0,mH (mN bg,λR bt=>?_));have bu:Ab I (Aa I R (.Al aDy)):=mP bt;have bp:=bf.same bu;have bq:=bi.keep (λb xs h=>bu b _ h);refine(λm σ N=>∃(j:Nat)(R:Addr)(es:aP)(aq:bO),m=x.length - j/\j<=x.length/\σ=(mQa x)/\mHo N aFx /\N R=oI aDy /\ET N es (Fc g x j),(x.length,60,R,es,0,aR,2,by rw[AwK,Aum];exact bp,Af,bq),5);rintro m σ N ⟨j,bv,bw,bx,rfl,bz,rfl,b0,b1,b2⟩;refine(0,_,mBm (_,nO b1,2),5);by_cases hj:j<x.length
  .rw[Af6 hj] at b2;obtain⟨b3,O,rfl⟩:∃b3 O,bw=b3::O:=by
    cases bw with
    |nil=>cases b2
    |cons b3 O=>exact(yZ b3 O)
   obtain⟨x0,b4,b5,b6,b7⟩:=id b2;injection b5 with b5 b8
   subst b5 b8;refine Au (λb9 H'=>∃cb,cb<x.length - j/\∃(j:Nat)(R:Addr)(es:aP)(aq:bO),cb=x.length - j/\j<=x.length/\b9=(mQa x)/\mHo H' aFx /\H' R=oI aDy /\ET H' es (Fc g x j),λb9 H' q=>q,5);have cc:mAV aFv.take lY:=by rw[AsA];congr 1;unfold CD;rw[ArY,AsY hj];rfl
   have cd:aFx.length=D.length+j:=by rw[Asi,AsS];omega
   have ce:=Aqy b g aFx kT i j x hj;have cf:D++aFv.take (j+1)=aFx++[lY]:=(pW cc At3);have cg:rc g lY=(mB9 j,g.contains j,)::Fc g x (j+1):=Af6 hj;have ch:O.length=x.length - (j+1):=(by rw[<-Xi g x (j+1)];exact AfC b7);have cj:decide (aJa.length=0)=decide (j+1=x.length):=by
    rw[ArX];by_cases h:j+1=x.length
    .rw[mU h,mU aA]
    rw[mS h,aBr]
   clear cc;generalize D++aFv.take j=U at*;obtain⟨AT,t1,a3⟩:=b0.tw;obtain⟨G,a4,a5,a6⟩:=b0.kn;have ck:∀{H':Hp}{c:Addr}{xs:aK},eJ=fL ->(H' p=some (mKV U kT))->c≠p:=λay cl e=>(by rw[e,cl] at ay;cases ay);refine(0,17,b0.at_,115,(1),aDz,29,aIy,193,b0.at_,178,p,dx,bv,b3,r,_,1<<<aDz,mB9 j,g.contains j,aJa,2,b0.at_,b1,b6,5);rw[cj];have cm:∀(u:HO)c xs,N c=fL ->(aDA) c=some iY:=λu c xs h=>(wG mHp b0.at_ h);have cn:∀(u:HO)c o,c≠p->H c=aH ->(aDA) c=some o:=λu c o hc e=>(by rw[gW];exact zT b0.keep);have co:∀(cp:Hv)(Y:Hp)(cq:bH)(y:Nat)(d:Bq),(mP6 Y)->Y p=some aXk ->Y r=rK (yF U.length)->Y B=vR cq->cq.length<=U.length+1->KQ b g aJb cq->(U++[lY])[y]? =mB d->rc g lY=rc g d->Y bv=oI (nF (b3::O).map)->ET Y O aXl ->
    (∀R2 cr,Gb t p dx r B b g H cr aJb kT ->cr R2=oI aJa ->ET cr O aXl ->cp.nx (mQb R2) cr)->
    ∃a be,nC r= aI /\HF Y a (tH mE aDz) (tH mE (b+y)) be/\EL (M9 K (Bo 0) aAF (DO λi j=>mQ (i+j)) "size") (OG (Ux (Uy K) (Bo 6) (Uw aAF) Uv) (EY 6)) cp (mQb bv) be:=by
    intro cp Y cq y d cs ct cu cx cy cz hy hd c0 c1 c2;refine(r,0,mH (_,EU aDz,cu,2,mKY BA CY,2),5);rw[MJ _ (AfA _ _ _ λy hy=>by omega)];have c3:yF U.length++[(EU aDz,tH mQ (b+y),)]=CY b (U.length+1) (mP5 U.length):=by
     rw[Af9];congr 1
     .exact Aq2 λz hz=>(by rw[fF])
     simp
    rw[c3];have c4:oB (Aa Y r aOM) p aXk:=(wL ah ct);refine(17,c4,115,19,c4,(qZ 7),5);have tk:∀c xs(u:HO),Y c=fL ->(aJc) c=some iY:=λc xs u h=>by rw[mHp ct,mHp cu];exact h
    refine(16,bv,0,nO (rW tk c0),5,λR2 c5=>?_)
    .rintro⟨ay,_⟩;rw[show(1:Int)=((1:Nat):Int) from rfl,HT.Hz,ArX,As1] at ay;omega
    have c6:mJi (b3::O).map O.map:=by unfold Dx;rw[show(1:Int)=((1:Nat):Int) from rfl,HT.Hz,HT.Ki,ArX,As1,aDg,Asn,Auz,Atv,AsW kI]
    rw[c6];have c7:∀c v(u:HO),(aJc) R2=none->(aJc) c=bJ ->(Aa aJc R2 (.Al aJa)) c=some v:=λc v u ay cl=>by rw[Ah (AR cl ay)];exact cl
    have c8:Gb t p dx r B b g H (nN (Aa Y r aOM) (mEA (ES (FC b g aJb kT) r))) aJb kT:=by refine(λc o hc e=>?_,Af,(_,by rw[Ah ah,Af,Asi];rfl,a3.snoc hy hd),cq,by rw[Ah ak,Ah am];exact cx,by rw[Asi];exact cy,cz);rw[gW,nZ ai];exact zT cs
    rw[<-ce] at c8;refine c2 R2 _ ?_ Af ?_
    .exact Gb.same c8 (mP c5)
    exact(c1.keep (λc xs h=>tk c xs _ h)).keep (λc xs h=>c7 c _ _ c5 h)
   have c9:∀u,Dv aDA (mEB lY) bv:=λu=>by rw[cg];exact Aq1 (cm u _ _ b1) (b2.keep (cm u))
   have da:∀u,(aDA) B=some (.dT G):=λu=>(oN ak a4);refine(0,B,2,mI (_,mH (da _)),16,_,mI (G,_,bv,mH (da _),2,c9 _,2),5)
   cases db:Bc G (mEB lY) with
   |some v=>
    obtain⟨y,d,hy,rfl,hd⟩:=mC a6 db;refine mH (0,17,Af,170,79);refine co _ _ G y d (cn _) Af (oN ah t1) (da _) aA (a6.BM _) (mQc hy) hd.symm (rW cm b1) aXm λR2 cr a1 a2 dc=>?_;exact aXn
   |none=>
    refine mQd (G,_,bv,da _,2,c9 _,aBI,2);rw[MJ _ db];have dd:∀u u' c xs,(aDA) c=fL ->(Aa aDA B u') c=some iY:=λu u' c xs h=>(wG mHp da h);refine(17,by rw[nQ ak];exact Af,170,79);refine co _ _ _ U.length lY (λc o hc e=>by rw[nZ an];exact cn _ c o hc e) (wL ak Af) (by rw[nQ am,Ah ah];exact t1) Af (xF Asi Nat.succ_le_succ a5) (a6.new _ db) (by rw[lL,At9];rfl) rfl (rH dd (rW cm b1)) (aXm.keep (dd _ _)) λR2 cr a1 a2 dc=>?_;exact aXn
  obtain rfl:j=x.length:=aA;have:bw=[]:=by
   have de:Fc g x x.length=[]:=tY (qT Xi);rw[de] at b2
   cases bw with
   |nil=>rfl
   |cons b3 O=>obtain⟨_,_,q,_⟩:=b2;cases q
  subst this;refine Az (_,3,5);rw[AsW aA] at b0;rw[(Qy _ _ _ _),Aqz i _ x av];exact b0
 rintro σ H1 ⟨ap,v6,aq,rfl,C⟩;rw[ArX,AsC] at C;obtain⟨AT,t1,a3⟩:=C.tw;exact k r AT H1 C.keep ai C.at_ t1 a3
theorem P_:∀(A B:jJ)(i:Nat),mBc i kW=mBc i A++mBc (mQe i) B
 |[],B,i=>rfl
 |a::A,B,i=>by
  simp only[List.cons_append,Vf.cellsFrom,P_ A B (i+1),List.append_assoc,List.length_cons];grind
def B3(m:Bi)(j:Nat):Nat:=(mBd j).length
theorem Qa(h:m.feet[j]? =mB f):B3 m (j+1)=cQ+aFy.length:=by have hj:=(nS h).1;unfold B3;rw[AsA,h,Atp,P_,Asi,AsS,aDg];congr 1;simp[Vf.cellsFrom]
theorem Qb(m:Bi)(j:Nat):cQ <= aU.length:=by
 unfold B3 An
 conv=>rhs;rw[<-Avs j m.feet]
 rw[P_,Asi];omega
def KR(m:Bi)(j:Nat):List Nat:=(m.cuts.filter λx=>x.1==j).map (·.2)
def Tf(m:Bi)(j:Nat)(f:dD):DH:=FC cQ (KR m j) aFy (AN Dh cQ aFy)
def JI(t:Aw)(H:Hp)(D:Addr)(m:Bi)(n:Nat):Prop:=∃a:aP,H D=aC2 /\a.length=n/\∀(j:Nat)(q:Addr)(f:dD),a[j]? =dA ->m.feet[j]? =mB f->q≠D/\∃dx b AT,H q=pI t.CI (ES (Tf m j f) b)/\b≠D/\H b=rK (CY cQ aFy.length AT)/\mKZ aFy
def Aq7(t:Aw):Sp:=λvs H Q _=>∃(mp:Addr)(m:Bi),vs=[mF mp]/\mCf H/\m.Ok/\ aU.length<=400/\∀D H',aO ->H D=none->JI t H' D m m.feet.length-> eS
abbrev Aq8:List Str:=aXo
theorem JJ:AD aXo aLT (A0 Vd):=aG
theorem Aq9(T:aD):A4 P w K mg base A9 4 t.LK t.AbS aLT (Aq7 t):=by
 refine oW T.LK.F.ok JJ
 .obtain⟨mp,m,rfl,_⟩:=h;rfl
 obtain⟨mp,m,rfl,hm,a,ac,k⟩:=h;obtain⟨ae,f,c,af,ag,ah⟩:=hm;obtain⟨d,l,ai,aj⟩:=ag;obtain⟨pc,r,ak,al⟩:=ah;have am:=a.KY;refine(_,(Ak (tE JJ.nd eU)
  (Ak (pY JJ.nd Ar)
  (Ak (BS Asq rfl aMX (tF 3 JJ.nd 4) (Ak (HD (i:=5) rfl JJ.nd rfl rfl jH aAH (qD ("cut",6,) Aq8 Vd) (pE 6 JJ.nd) (mJo (uS (uE 6) bF)) (pZ (uE 6)))
  (Ak (mJF JJ.nd (Dc T.De.k (Aq6 T) bR rfl T.De.m T.Nj.b .nil Ay aUu))
  (Ak (Cu (mNl aQ (mT gJ)))
  (Ao (mJb JJ.nd (qK 7) Jn))))))
  aCZ))),5)
 refine(aR,λD u=>?_);have s0:Ab H aHU:=mP u;refine(176,ae,3,mC s0 af,105,2,f,0,nD s0 l,5);refine Fn (J:=MM K f) m.feet.length (λi σ H1=>∃(v:Int)(z v4 B C:bO),v=((B3 m i:Nat):Int)/\σ=[mG mp,mG D,mW v,z,v4,B,none,C]/\ fS /\JI t H1 D m i)
  (60,14,14,29,s0,[],88,λj q f h=>by simp at h)
  (λi σ H1 an (_,_,_,_,_,_,_,s1,_)=>(sO s1 l (by omega:i<d.length)))
  (λσ H1 (_,_,_,_,_,_,_,s1,_)=>(rO s1 l)) ?_ ?_
 .rintro i σ H1 y ao an ⟨v,z,v4,B,C,rfl,rfl,s1,ap,aq,ar,as⟩ ⟨G,x,rfl,au,rfl,hx⟩;have av:i<d.length:=aA;have hx':=xV hx s1 l;rw[ArY,mJ av] at hx';simp at hx';subst hx';have aw:pC m.feet[i]? m.feet[i]:=mJ an;have ax:=aj i d[i] m.feet[i] (mJ av) aw;obtain⟨ay,az,a0⟩:=mCX a.Bz i an;have a1:=Qa aw;have hole:=Qb m (i+1);generalize m.feet[i]=ws at*;generalize d[i]=I at*;have s2:Ab H aJd:=oR s1 au;have M:Ab H1 aJd:=mP au;have a2:A8 K aJd G [mQ (i:Nat),nC I]:=nO Af;refine(G,0,a2,2,3,8,5);generalize aJd=ao at*;refine(176,ae,3,qA af,106,2,c,2,(mCc s2 r),λL a3=>?_);refine EA (J:=qJ c) pc.length (λj N=>Ab ao N/\N L=nW ((aMQ.filter λx=>x.1==i).map (·.2))) (yB a3)
   (λj N hj a4=>(19,nD a4.1 aER,197)) (λN a4=>(rO a4.1 aER)) ?_ ?_
  .rintro j N y a5 hj ⟨s3,O⟩ ⟨rfl,hy⟩;have a6:=qW s3 aER;rw[ArY,cW] at a6;simp at a6;subst a6;have a7:j<m.cuts.length:=aA;have a8:=s3 _ _ (qA (al j pc[j] m.cuts[j] cW (mJ a7)));have a9:mAV m.cuts.take m.cuts[j]:=(vB AsA a7);rw[a9];generalize m.cuts[j]=ba at*;refine(30,pc[j],36,nO a8,cN,0,79);rw[Fp];by_cases e:ba.1=i
   .rw[mU e];refine Au (0,pc[j],36,nO a8,dW,_,O,5,qH s3 a3,5)
    .refine BA ?_;rw[ArX,ArX];have:=Aun (λx:Nat×Nat=>x.1==i) aMQ;have:=a.Ag8;rw[AsS] at*;omega
    rw[Af,Ath,AuJ,mK (yW e)];simp
   rw[mS e];refine Az (oH s3);rw[O,Ath,AuJ,mM hS];simp
  rintro N ⟨s3,O⟩;rw[ak,AsC] at O;refine(40,λp dx hp bb bc=>?_);have U:Ab N (mJp N t.CI):=mAO bb bc;have bd:=aAI;have be:D≠p:=λe=>(by rw[<-e,nP s3 M aq] at hp;cases hp);refine(p,dx,I,L,B3 m i,i,ws,KR m i,190,nD U (mC bd ax),nD U O,4,λw hw=>?_,λbf AT bg bh bi bj bk bl=>fW)
  .have:=a0 w hw;simp only[Eh,Bool.and_eq_true,decide_eq_true_eq] at this;omega
  have Y:Ab N bg:=λb o e=>bh b o (AR e hp) (pQ U);have bm:=mCH s3 M aq;refine(mK0 bm D);have bn:(nE bg D (nF ap.map++[nC p])) p=some (mHn (Tf m i ws) bf):=(wL be bj);refine(0,17,bn,115,48,_,5,2,vO bd Y u,ap++[p],23,by simp[ar],λj q g hj hg=>?_)
  .rw[a1];show((B3 m i:Nat):Int)+(((Bd i ws).length:Nat):Int)=_;omega
  by_cases bo:j<ap.length
  .rw[Ask bo] at hj;obtain⟨bp,bq,br,bs,bt,bu,bv,bw⟩:=as j q g hj hg;exact(bp,bq,br,bs,by rw[Ah bp];exact mCH s3 M bt,bu,by rw[Ah bu];exact mCH s3 M bv,bw)
  have bx:j=i:=by have:=(nS hj).1;rw[Asi,As1,AuV] at this;omega
  subst bx;rw[eL,ar,At9,List.getElem?_cons_zero] at hj;injection hj with hj
  subst hj;rw[aw] at hg;injection hg with hg
  subst hg;have bz:bf≠D:=λe=>(by rw[e,nP U s3 (mC M aq)] at bi;cases bi);exact(Asr be,dx,bf,AT,bn,bz,by rw[Ah bz];exact bk,bl)
 rintro σ H1 ⟨v,z,v4,B,C,rfl,rfl,s1,b0⟩;exact(mNV b0)
def AqA(t:Aw):Sp:=λvs H Q _=>∃(p dx:Addr)(fs:dO)(n h:Nat),vs=[aS,lP]/\H p=aNm /\nY ("half":Str)=oZ mQ (h:Int)/\n<2 ^ 1000/\h<=1000/\sY ((Vf.DJ h n:Nat):Int)
theorem AqB:AD aBD aBD (A0 Aa4):=aG
theorem Xj(T:aD):A4 P w K mg base A9 1 t.Ix t.AbU aBD (AqA t):=by
 refine qI T.Ix.F.ok AqB
 .obtain⟨p,dx,fs,n,h,rfl,_⟩:=h;rfl
 obtain⟨p,dx,fs,n,h,rfl,hp,c,d,hle,k⟩:=h;exact(_,(vM (AE J3 aQ (zR aQ))),16,18,hp,87,c,8,(d,hle),13,k)
def Ee(m:Bi)(j:Nat):List Vf.Txt:=mJD j
theorem GH(h:vY j):pC m.feet[j]? aJe:=by unfold Ee;grind
def Do(m:Bi)(j:Nat):DH:=Tf m j aJe
def IW(m:Bi)(g:DH->Nat):List Nat:=(oP m.feet.length).map λj=>g hO
theorem Xk(h:vY j):mBd (j+1)=mBd j++Bd j aJe:=by rw[AsA,GH h,Atp,P_,AsS,aDg];simp[Vf.cellsFrom]
theorem Xl(m:Bi)(p:hA)(g:DH->Nat)(hg:∀j,j<m.feet.length->g hO=AN p cQ iN):(IW m g).sum=AN p 0 aU:=by
 have:∀n,n<=m.feet.length->(aA3.map λj=>g hO).sum=AN p 0 (mBd n):=by
  intro n
  induction n with
  |zero=>intro _;rfl
  |succ n a=>
   intro b;rw[Atl,As7,Aw1,a aA,Xk aA,AgK,AsZ];simp;rw[hg n aA];rfl
 have h:=aXp;rw[AsC] at h;exact h
theorem AqC(m:Bi):(IW m DH.size).sum=aU.length:=by
 have:∀n,n<=m.feet.length->(aA3.map λj=>hO.size).sum=(mBd n).length:=by
  intro n
  induction n with
  |zero=>intro _;rfl
  |succ n a=>
   intro b;rw[Atl,As7,Aw1,a aA,Xk aA,Asi];rfl
 have h:=aXp;rw[AsC] at h;exact h
theorem Xm(h:c∈ cV):c.foot=i:=by simp only[Bd,List.mem_flatMap,CD,List.mem_map,List.mem_range] at h;obtain⟨w,_,p,_,rfl⟩:=h;rfl
theorem AfD(m:Bi)(i j:Nat):(KR m i).contains j=m.cuts.any λx=>x.1==i&&x.2==j:=by unfold KR;rw[Aws,List.any_map,List.any_filter];grind
theorem AfE:∀(A:gB)(b:Nat),(∀c∈A,p c=q c)->vX A=AN q b A
 |[],_,_=>rfl
 |c::r,b,h=>by
  unfold AN;rw[h c AsG,AfE r (b+1) λd hd=>pH h d hd]
theorem AqD(m:Bi)(j:Nat):hO.cuts=AN aFX cQ iN:=by refine AfE _ _ λc hc=>?_;unfold Xh El;rw[AfD,Xm hc]
theorem Tg:∀(r:jJ)(i b j:Nat)(f:dD),r[j]? =mB f-> aFY[j]? =some (mQf Dh)
 |[],i,b,j,f,h=>by simp at h
 |a::r,i,b,0,f,h=>by
  obtain rfl:a=f:=fE;rfl
 |a::r,i,b,j+1,f,h=>by
  rw[AtM] at h;show(mQg Br)[j]? =_;rw[Tg r (i+1) _ j f h,Auf];simp only[Vf.cellsFrom,List.length_append];grind
theorem AfF:∀(r:jJ)(i b j:Nat)(f:dD),r[j]? =mB f-> aFZ[j]? =some (mQf Gi)
 |[],i,b,j,f,h=>by simp at h
 |a::r,i,b,0,f,h=>by
  obtain rfl:a=f:=fE;rfl
 |a::r,i,b,j+1,f,h=>by
  rw[AtM] at h;show(mQg DI)[j]? =_;rw[AfF r (i+1) _ j f h,Auf];simp only[Vf.cellsFrom,List.length_append];grind
theorem Xn:∀(r:jJ)(i b:Nat),aFY.length=r.length
 |[],_,_=>rfl
 |a::r,i,b=>by simp[Br,Xn r]
theorem Th:∀(r:jJ)(i b:Nat),aFZ.length=r.length
 |[],_,_=>rfl
 |a::r,i,b=>by simp[DI,Th r]
theorem AqE(m:Bi):IW m DH.Gj=Br 0 0 m.feet:=by
 apply AsJ;intro j;by_cases h:j<m.feet.length
 .rw[mK1 Tg h,IW,ArY,AsY h,AsZ,AsZ];rfl
 rw[mKY As9 IW,As9 (qT Xn)]
theorem AqF(m:Bi):IW m DH.ends=DI 0 0 m.feet:=by
 apply AsJ;intro j;by_cases h:j<m.feet.length
 .rw[mK1 AfF h,IW,ArY,AsY h,AsZ,AsZ];rfl
 rw[mKY As9 IW,As9 (qT Th)]
theorem Ti(l:aB):aXq.sum=((l.sum:Nat):Int):=by
 induction l with
 |nil=>rfl
 |cons a l b=>rw[Asn,AtK,b,AtK];omega
theorem KS(l:aB):iv l=aXq.map V.int:=by rw[AsB];rfl
theorem Qc(T:aD){c:hI}(d:mK2 m.feet.length)(aa:m.feet.length<=16)(e:∀a f,(ES a f).lookup nm=uH mW g a)(h:AS K t.CI nm)(l:pP D)
 (k:∀H',aO -> dQ=nW (IW m g)->c H'):
 ∃W:aEu,(mJx H D)/\∀i m H,W i m H->
  (aJf.stop i H/\c H)\/(aJf.go i H/\∃n:hI,(mNc n i)/\∀x H',mDf aJf.Fg->EY 4 x aXr H' λB C=>Co B [4]=aXr /\MF B C λb E=>
    if b=true then FJ K (Bo 4) nm B E λy G=>∃acc,G D=aBv /\acc.length<sizeLine/\n (yY G) else n E):=by
 obtain⟨I,L,ab,M⟩:=d;refine EA (J:=aJf) m.feet.length (mK3 D (aB7.map λj=>g hO)) (yB l)
  (λj H1 hj N=>(19,nD N.1 L,by rw[ArY,mKr j I.length];rfl)) (λH1 N=>(rO N.1 L)) ?_ (λH1 N=>k H1 N.1 N.2)
 rintro j H1 y C hj ⟨s1,O⟩ ⟨rfl,hy⟩;have Q:j<I.length:=aA;have U:=qW s1 L;rw[ArY,mJ Q] at U;obtain rfl:nC I[j]=y:=(mR U);obtain⟨_,dx,f,AT,Y,_⟩:=M j I[j] _ (mJ Q) aJg;refine jM;refine(0,I[j],_,dx,3,qS Y,50,h,e _ _,_,O,mA4 As4,qH s1 l,5);rw[Af,Atl];simp[Do]
def AfG(m:Bi)(q a:Nat):Prop:=∃c d,aU[q]? =bT /\ aU[a]? =mB d/\Aet m c d
theorem AfH(m:Bi)(hj:vY j)(hx:x<iN.length):aU[cQ+x]? =iN[x]? :=by
 have h:aU=(mBd j++iN)++Vf.cellsFrom (j+1) (m.feet.drop (j+1)):=by
  rw[<-Xk hj];unfold An
  conv=>lhs;rw[<-Avs (j+1) m.feet]
  rw[P_,AsS,aDg,AsZ]
 rw[h,At3];unfold B3;grind
theorem AfI(m:Bi)(c:Bq):J4 m c=rc (KR m c.foot) c:=by unfold J4 rc Fc El;refine AsU λj _=>?_;rw[AfD]
theorem AqG(m:Bi)(hj:vY j)(hx:x<iN.length)(a:mKZ iN):AT x<iN.length/\AfG m (cQ+x) (cQ+AT x):=by obtain⟨d,b,c⟩:=wX a x hx;have hd:=(nS b).1;refine(hd,_,d,(AfH m hj hx).trans (mJ hx),(AfH m hj hd).trans b,5);have f1:=Xm (Asw hx);have f2:=Xm (Asl b);refine(f1.trans f2.symm,5);rw[AfI,AfI,f1,f2];exact c
abbrev AfJ(a:BR)(d f b:Addr):List gG:=[("half",mE ((a.AW:Nat):Int),),("cuts",mE ((a.cuts:Nat):Int),),("inner",mE ((a.inner:Nat):Int),),("doors",dC,),("fitting",iW,),("first",mE ((a.first:Nat):Int),),("done",mE ((a.done:Nat):Int),),("twins",bW,)]
def Tj(m:Bi)(n:Nat)(a:hT):Prop:=∀(q:Nat)(Am:Bool),q<n->∃b,b<aU.length/\AfG m q b/\Bc a (EU iT)=mW ((1<<<B5 aJ.AW b Am:Nat):Int)
theorem JI.fr(h:mK2 n)(g:n<=m.feet.length)(fr:tM B)(i:aXs):JI t H' SL m n:=by
 obtain⟨s,v,y,z⟩:=h;have ne:∀c u,H c=aM ->u≠ nB C []->¬B c:=λc u e hu hb=>by grind
 refine(s,mK4 v,y,aXt);obtain⟨I,J,L,AT,M,O,Q,U⟩:=z j q f hq hf;exact(I,J,L,AT,mK4 M,O,mK4 Q,U)
theorem JI.same(h:mK2 n)(s:aO):JI t H' SL m n:=by obtain⟨g,i,u,v⟩:=h;refine(g,nH i,u,aXt);obtain⟨y,z,B,AT,C,I,J,L⟩:=v j q f hq hf;exact(y,z,B,AT,nH C,I,nH J,L)
theorem AfK(h:Nat)(x:gY):∀l:cA,FD h (l++[x])=FD h l++[x,(x.1<<<h,x.2<<<h,)]
 |[]=>rfl
 |(e,s)::r=>by
  rw[At8];simp only[FD,AfK h x r,List.cons_append]
theorem AfL(h:Nat):∀l:cA,(FD h l).length=2*l.length
 |[]=>rfl
 |(e,s)::r=>by simp only[FD,List.length_cons,AfL h r];omega
theorem AqH{a c:TE}(ha:b=true->∀Q:VK,lD ->a σ H Q)(hb:b=false->∀Q:VK,lD ->c σ H Q)(hq:lD):if b=true then a σ H Q else c σ H Q:=by
 cases b with
 |true=>exact bE.mpr (ha rfl Q hq)
 |false=>exact bS.mpr (hb rfl Q hq)
def AqI(t:Aw):Sp:=λvs H Q _=>∃(p dx mp:Addr)(m:Bi),vs=[aS,mF mp]/\H p=rM t.A_/\mCf H/\m.Ok/\ aU.length<=400/\
 ∀(d f a:Addr)(b:hT)(H':Hp),tM eX->H' p=mQh a->F9 H' d aJ.BP->H' f=mB aCa ->H' a=rK b-> aXu -> cU
abbrev Qe:List Str:=aXv
theorem Ef:AD aXv aL9 (A0 Ly):=aG
theorem AqJ(T:aD):A4 P w K mg base A9 5 t.Nl t.AbT aL9 (AqI t):=by
 refine oW T.Nl.F.ok Ef
 .obtain⟨p,dx,mp,m,rfl,_⟩:=h;rfl
 obtain⟨p,dx,mp,m,rfl,hp,hm,ac,ae,k⟩:=h;have hu:=aBQ;have af:=ac.KY;refine(_,(Ak (pY Ef.nd (Bb (Aq9 T) bR rfl T.LK.m T.LK.F.kp T.LK.b .nil Ay dU))
  (Ak (rL Ef.nd aON)
  (Ak (sA Ef.nd (AE G7 Ar bF))
  (Ak (oF (vK bF))
  (Ak (oF aON)
  (Ak (oF aXw)
  (Ak (tG Ef.nd (vN aXx (tZ bQ)))
  (Ak aIA
  (Ak (BS Asq rfl (mNn cC) (tF 4 Ef.nd 7) (Ak (Cu (mEk (mT (mCe hM gJ))))
  (Ao (Cu (mEk (mT (CV (mAT (zR hM) (zR gJ)))))))))
  (Ak (mEx Ef.nd (mQi (mT (zN bQ))))
  (Ak (mHc Ef.nd aXw)
  (Ak (oF (CV (Ad (AE Aeh kJ aAU) (pS 9 8))))
  (Ak (oF (Ie (qR cJ) aMY (zR aMY)))
  (Ak (oF (zR bQ))
  (Ak aIC
  (Ao (BS Asq rfl (qC aW) (oC 4 Ef.nd) (Ao (Rp (BS Asq rfl (Aj2 hM) (oC 10 Ef.nd) (Ak (mB0 aX aDB aXy)
  (Ao (mB0 aX (zR aDB) (zR aXy)))))))))))))))))))))))),5)
 refine(0,mp,m,2,hm,ac,ae,λSL H1 s1 ag ah=>?_);have ai:=qS hp;have aj:∀c,(eX) c->H1 c=none\/H1 c=some (nB t.A_ []):=λc e=> mQj ai;refine(0,SL,2,(oM ah.choose_spec.1),λak al=>?_);refine Qc T ah af (g:=DH.size) gT T.ND al (λam s2 an=>?_);rw[KS] at an;refine(mCC ak an);rw[Ti,AqC];have ao:Fr eX H1 am:=mCB s2;refine(0,(1),aU.length,29,aIy,0,8,97,qA ai,87,bB,5);show yG am aJh;have ap:wO am aJh:=Af;have aq:Fr eX H1 (nN am aJh):=ao.Aa rfl;generalize Aa am p aJh=ar at ap aq;have as:=mHq aq;refine(0,SL,2,(oM as.choose_spec.1),λau av=>?_);refine Qc T as af (g:=DH.cuts) gT T.Vv av (λaw s4 ax=>?_);rw[KS] at ax;refine(mCC au ax);rw[Ti,Xl m aFX DH.cuts (λj _=>AqD m j)];refine(97,vJ ap,35,T.RH,189);show yG aw (mHr m);have ay:mED aw (mHr m):=Af;have az:Fr eX H1 (nN aw (mHr m)):=(aq.same s4).Aa rfl
 generalize Aa aw p (mHr m)=a0 at ay az;have a1:=mHq az;refine(193,ay,30,SL,2,(oM a1.choose_spec.1),λa2 a3=>?_);refine Qc T a1 af (g:=DH.inner) gT T.Vu a3 (λa4 a5 a6=>?_);rw[KS] at a6;refine(mCC a2 a6);rw[Ti,Xl m HX DH.inner (λj _=>rfl)];have a7:=mC a5 ay;have a8:∀q,mBl q<2 ^ 1000:=λq=>yL (JQ q aU 0);refine(p,dx,19,bX,2,a7,2,a8 _,4,97,a7,35,T.RI,aAM,5);show yG a4 aJi;have a9:mED a4 aJi:=Af;have ba:Fr eX H1 (nN a4 aJi):=(az.same a5).Aa rfl;generalize Aa a4 p aJi=bb at a9 ba;have bc:=mHq ba;refine(0,SL,2,(oM bc.choose_spec.1),λbd be=>?_);refine Qc T bc af (g:=DH.Gj) gT T.Vs be (λbf bg bh=>?_);rw[AqE] at bh;have bi:=bc.same bg;refine(0,jP,λbj bk=>?_)
 have bl:Ab bf (mK5 mE):=mP bk;have bm:tO mAf Br m.feet.length:=Xn ..;refine(bd,bj,8,mC bl bh,Af,AL (by rw[ArX,bm];show m.feet.length+1<=_;omega),λST bn=>?_);rw[show iv (mAf Br)++[mQ (((λbo bp:Nat=>bo<<<bp) 1 aU.length:Nat):Int)]=iv cT from aC];have bq:Ab bf aXz:=oR bl bn;have br:(aXz) ST=some (pT cT):=Af;generalize Aa (mK5 mE) ST (pT cT)=bs at bq br;have bt:=(ba.same bg).same bq;have bu:=nP bq bg a9;refine(aR,λd bv=>(97,zQ bv bu,35,T.Pg,(qZ 3),5));have bw:d≠p:=λe=>(by rw[e,bu] at bv;cases bv);have bx:nA H1 d:=by
  cases q:H1 d with
  |none=>rfl
  |some u=>have:=mV bt q bw;rw[bv] at this;cases this
 show yG aJj aJk;have bz:wO aJj aJk:=Af;have b0:Fr eX H1 aOO:=(bt.same (mP bv)).Aa rfl;have b1:oB aOO d aEI:=(mA8 bw);have b2:ST≠p:=λe=>(mQk bu);have b3:ST≠d:=λe=>(mQk bv);have b4:oB aOO ST (pT cT):=(by rw[Ah b2,Ah b3];exact br);generalize Aa aJj p aJk=b5 at bz b0 b1 b4;have b6:=mHq b0;obtain⟨f,b7,b8,b9⟩:=id b6;refine(40,ST,0,mN b4,λca cb=>?_);have cc:Dx (iv cT) (mB 1) none=iv cT.tail:=by unfold Dx;rw[show(1:Int)=((1:Nat):Int) from rfl,HT.Hz,HT.Ki,ArX,Asi,AtZ aC,<-List.map_drop,List.drop_one,AsW (by rw[ArX,AtI,Asi];exact aF)]
 rw[cc];have cd:Ab b5 (Aa b5 ca aOP):=mP cb;have ce:wW b5 ca aOP:=Af;generalize Aa b5 ca aOP=cf at cd ce;have cg:ca≠d:=λe=>(by rw[e,b1] at cb;cases cb);obtain⟨ch,cj,ck,cl⟩:=id ah;have cm:SL≠d:=λe=>(by rw[e,bx] at cj;cases cj);have cn:p≠d:=Asr bw;have co:(cT.tail).length=m.feet.length:=(by rw[AtI,Asi,bm];rfl);have cp:∀y∈ cT.tail,y<2 ^ 1000:=λy hy=>by
  have cq:=mNz hy;rcases oS cq with h|h
  .obtain⟨j,hj,rfl⟩:=Asy h;have cr:vY j:=(by rw[bm] at hj;exact hj);have o:=mK1 Tg cr;rw[cW] at o;rw[Ase o];refine aOQ;have r:=Qa (GH cr);have C:=aOR;have cs:cQ=(mBd j).length:=rfl;rw[AsZ,AsZ];omega
  obtain rfl:=zZ h;rw[AsE];exact aJl
 refine(SL,ca,3,nD cd b7,mN ce,5);refine Fn (J:=Lw K SL ca) m.feet.length (λj σ D=>∃v4 ct,σ=[bP,mG mp,mG SL,aOS,v4,mHm aU.length,mG ST,ct,none,none,none]/\yE d cf D/\F9 D d (FD bX aOT))
  (14,86,[],mC cd b1,2,128) ?_ ?_ ?_ ?_
 .rintro j σ D hj ⟨v4,ct,rfl,fr,hd⟩;exact(48,aOU,uI ce cg,mCI b8,mCI co)
 .rintro σ D ⟨v4,ct,rfl,fr,hd⟩;exact(19,aOU,uI ce cg,mH (mCr b8 aF))
 .rintro j σ D y G hj ⟨v4,ct,rfl,fr,I,hd,cu,cx⟩ ⟨cy,x,cz,rfl,c0,rfl,hx,hy⟩;have c1:j<f.length:=aA;have hx':=hx _ aOU;rw[ArY,mJ c1] at hx';obtain rfl:nC f[j]=x:=(mR hx');have cq:=hy _ (uI ce cg);have c2:j<(cT.tail).length:=aA;rw[ArY,mJ c2] at cq;obtain rfl:mQ (((cT.tail)[j]:Nat):Int)=cz:=(mR cq);obtain⟨_,c3,L,AT,M,_⟩:=mQl b9;have c4:f[j]≠d:=λe=>by
   have c5:f=ch:=by
    have h0:=b0 _ _ cj (λz=>by rw[z,ai] at cj;cases cj);rw[b7] at h0;injection Ase h0 with h0
    exact aW4.mp h0
   subst c5;obtain⟨_,c6,c7,c8,c9,_⟩:=mQl cl;rw[e,bx] at c9;cases c9
  have da:pC (aCh.zip cT.tail)[j]? (hO.ends,(cT.tail)[j],):=by rw[AuT];exact((by rw[<-AqF,IW,ArY,AsY hj];rfl),mJ c2)
  have db:=uT cp c2;have dc:mCv hO.ends:=by refine aOQ;have r:=Qa aJg;have C:=aOR;show cQ+iN.length<=1000;omega
  have dd:mAV (mHM m).take (hO.ends,(cT.tail)[j],):=(yM AsA da);rw[dd,AfK];have de:(FD bX aOT).length=2*j:=by rw[AfL,AsS,AtZ];rw[Aw4,Th,co];omega
  generalize (cT.tail)[j]=N at*;generalize FD bX aOT=df at*;have dg:Ab D (Aa D cy aJm):=mP c0;have dh:mCD D cy aJm:=Af;have di:=fr.same dg;have dj:=mC dg hd;have dk:∀(i:Nat)(q:Addr)(x:gY),I[i]? =dA ->df[i]? =aY ->(Aa D cy aJm) q=some (mGW (x.1:Int) (x.2:Int)):=λi q x r C=>mC dg (mHs cx);generalize Aa D cy aJm=G at dg dh di dj dk;have dm:=mV di (mC cd bz) cn;have dn:=mV di (mC cd M) c4;refine(cy,0,nO dh,2,3,8,17,dm,35,T.Pg,2,pL dj,0,f[j],_,c3,3,dn,50,T.RG,30,gL,λo dp=>?_);have dq:Ab G (Aa G o aXA):=mP dp;refine(d,8,mC dq dj,fU,5);have dr:Fr (λc=>c=d) G aDC:=(mCB dq).Aa rfl;have ds:(aDC) d=some (.Ac (nF I.map++[mF o])):=Af;have dt:oB (aDC) o aXA:=(oN (λe=>by rw[e,dj] at dp;cases dp) Af);have du:=mV dr dm cn;refine(17,du,35,T.Pg,2,pL ds,0,f[j],_,c3,3,mV dr dn c4,50,T.RG,2,17,du,87,2,hO.ends,bX,29,(mD6 dc),0,17,du,87,2,N,bX,29,(mD6 db),gL,λO dv=>?_)
  have dw:Ab aDC aXB:=mP dv;have ne2:O≠d:=λe=>by
   subst e;have q:=ds.symm.trans dv
   cases q
  refine(d,8,mC dw ds,BA (by rw[Asi,ArX];show I.length+1<_;omega),5);have dy:Fr (λc=>c=d) aDC aXC:=(mCB dw).Aa rfl;refine(3,(di.trans dr).trans dy,I++[o,O],23,by rw[Asi,Asi,cu];rfl,aOV);have dz:∀{d0:Hp}{c:Addr}{xs l:aK},d0 c=fL ->d0 d=nV l->¬(c=d):=λr C e=>(by rw[e,C] at r;cases r);by_cases d1:i<I.length
  .rw[Ask d1] at r;rw[Ask aA] at C;have cs:=mHs dk;have h4:=dr _ _ cs (dz cs dj);exact dy _ _ h4 (dz h4 ds)
  rw[eL] at r;rw[eL,<-cu] at C
  match hk:i - I.length,r,C with
  |0,r,C=>
   obtain rfl:o=q:=(mR r);obtain rfl:(hO.ends,N,)=x:=(mR C);exact dy _ _ dt (dz dt ds)
  |1,r,C=>
   obtain rfl:O=q:=(mR r);obtain rfl:(hO.ends<<<bX,N<<<bX,)=x:=(mR C);show(aXC) O=_;rw[Ah ne2];exact Af
  |n+2,r,C=>simp at r
 rintro σ D ⟨v4,ct,rfl,fr,hd⟩;rw[AsW (by rw[Aw4,Th,co];omega)] at hd;have d2:=mV fr (mC cd bz) cn;have d3:Fr (uY p d) H1 D:=(b0.As (λc e=> aAb)).trans (((Fr.refl (B:=λc=>c=d)).same cd).trans fr |>.As λc e=> mI e);have d4:=ah.fr aF d3 (λc e=>e.elim (λe=> mI (oD e ai)) (λe=> mH (oD e bx)));have d5:mDY ((1<<<aU.length:Nat):Int) aAf:=by have:1<=1<<<aU.length:=(oD AsE Nat.one_le_two_pow);omega
 have d6:aAf - 1<2 ^ 1000:=by have:2 ^ aU.length<=2 ^ 1000:=As5 aA aA;rw[AsE];have:=Nat.one_le_two_pow (n:=aU.length);omega
 refine(193,d2,30,8,p,dx,_,aDS,bX,(mAB d5),d2,2,d6,4,193,d2,30,SL,2,(oM d4.choose_spec.1),λd7 d8=>?_);refine Qc T d4 af (g:=DH.Hg) gT T.Vt d8 (λd9 ea eb=>?_);rw[KS] at eb;refine(mCC d7 eb);rw[Ti,Xl m Du DH.Hg (λj _=>rfl)];have ec:=mC ea d2;have ed:=d3.same ea;have ee:=hd.same ea;refine(p,dx,19,bX,2,ec,2,a8 _,4,16,13,16,(mAC 3),λU ef=>?_);have eg:U≠p:=λe=>(by rw[e,ec] at ef;cases ef);refine(97,zQ ef ec,35,T.RJ,(qZ 4),5);show yG aFz aFA;have eh:mED aFz aFA:=Af;have ei:oB (nN aFz aFA) U aCa:=(mA8 eg)
 have ej:Fr eX d9 (nN aFz aFA):=(mCB (mP ef)).Aa rfl;generalize Aa aFz p aFA=ek at eh ei ej;obtain⟨el,em,en,eo,_,pc,ep,eq,_⟩:=id hm;have er:Fr (uY p d) H1 ek:=ed.trans (mHt ej.As);have es:∀c u,H c=aM ->u≠ nB t.A_ []->¬(c=p\/c=d):=λc u e hu=>by
  rintro(z|z)
  .rw[z,hp] at e;exact aOW
  have:=qS e;rw[z,bx] at this;cases this
 have et:=ej _ _ (mC ea (mV fr (mC cd b4) b3)) b2;refine(176,el,3,(er _ _ (qS eo) (mQm es eo)),106,2,_,mH (_,mN (mV er (qS ep) (mCz es ep)),2),5);have eu:BX (iv cT) 0=some (uH mE cT.headD 0):=by
  obtain⟨a,l,ev⟩:∃a l,cT=a::l:=by
   cases mAf Br with
   |nil=>exact aMt
   |cons a l=>exact aMt
  rw[ev];exact cN
 have ew:mCv aAh:=by
  have cr:vY 0:=ac.Qr;have o:=Tg m.feet 0 0 0 _ (GH cr);have O:aAh=AN Dh (0+aXD.length) (Bd (0+0) (Ee m 0)):=by
   cases ex:mAf Br with
   |nil=>rw[ex] at o;cases o
   |cons a l=>rw[ex] at o;exact Ase o
  rw[O];refine aOQ;have r:=Qa (GH cr);have C:=Qb m 1;have cs:B3 m 0=aXD.length:=rfl;rw[AsZ,AsZ];rw[AsZ] at r;omega
 refine AqH (v:= mE ((aJ.first:Nat):Int)) aXE aXE ?_
 .have e0:m.cuts≠[]:=λe=>by
   rw[e] at eq;rw[tY eq] at hb;cases hb
  refine(207,5);rw[show aJ.first=aAh from mM e0] at ez;exact ez
 .have e0:m.cuts=[]:=by
   cases e1:pc with
   |nil=>rw[e1] at eq;exact tY eq.symm
   |cons a l=>rw[e1] at hb;cases hb
  refine(207,17,eh,87,2,aAh,bX,29,(mD6 ew),5);rw[show aJ.first=aAh<<<bX from mK e0] at ez;exact ez
 refine(97,eh,35,T.Ac9,aDc,5);show yG ek aFB;have e2:wO ek aFB:=Af;have e3:Fr eX d9 (nN ek aFB):=ej.Aa rfl;have e4:oB (nN ek aFB) U aCa:=(oN eg ei);generalize Aa ek p aFB=e5 at e2 e3 e4;refine(0,17,e2,87,2,aAf,bX,29,(mLC AsE aJl),97,e2,35,T.AcA,(qZ 6),5)
 show yG e5 aFC;have e6:wO e5 aFC:=Af;have e7:Fr eX d9 (nN e5 aFC):=e3.Aa rfl;have e8:oB (nN e5 aFC) U aCa:=(oN eg e4);generalize Aa e5 p aFC=e9 at e6 e7 e8
 refine λY fa=>(97,zQ fa e6,35,T.RK,(qZ 7),5);have fb:Y≠p:=λe=>(by rw[e,e6] at fa;cases fa);have sw:Ab e9 (Aa e9 Y jE):=mP fa;have fc:oB aJn p aXF:=Af;have fd:Fr eX d9 aJn:=(e7.same sw).Aa rfl;have fe:oB aJn U aCa:=(by rw[Ah eg];exact mC sw e8);have ff:oB aJn Y jE:=(mA8 fb)
 rw[show Cn "twins" (nC Y) aXG=(aOX:dO) from rfl];generalize Aa (Aa e9 Y jE) p aXF=fg at fc fd fe ff;have fh:F9 fg d aJ.BP:=by obtain⟨I,g1,g2,g3⟩:=ee;refine(I,mV fd g1 bw,g2,aOV);have:=mHs g3;exact mQn fd ec
 have fi:nA d9 Y:=by
  cases q:d9 Y with
  |none=>rfl
  |some u=>have:=mV e7 q fb;rw[fa] at this;cases this
 have fj:nA H1 Y:=by
  cases q:H1 Y with
  |none=>rfl
  |some u=>
   by_cases z:Y=p\/Y=d
   .rcases z with z|z
    .exact nL z fb
    obtain⟨I,g1,_⟩:=ee;rw[z,g1] at fi;cases fi
   have:=mV ed q z;rw[fi] at this;cases this
 have fk:Fr (uY p d) H1 fg:=ed.trans (mHt fd.As);clear d4 b6 bi bc a1 as;have fl:∀(j:Nat)(q:Addr),ch[j]? =dA ->∃c3 L AT,j<m.feet.length/\fg q=mB (.Ag t.CI c3 (ES (Tf m j aJe) L))/\fg L=rK aJo /\mKZ iN/\L≠Y/\q≠Y/\q≠L/\p≠L:=λj q hq=>by
  have hj:vY j:=(wM ck hq);obtain⟨_,c3,L,AT,M,fm,fn,fo⟩:=cl j q _ hq aJg;have fp:¬(q=p\/q=d):=by
   rintro(z|z)
   .rw[z,ai] at M;injection Ase M with _ _ M;cases M
   rw[z,bx] at M;cases M
  have fq:¬(L=p\/L=d):=by
   rintro(z|z)
   .rw[z,ai] at fn;cases fn
   rw[z,bx] at fn;cases fn
  exact(c3,L,AT,hj,mV fk M fp,mV fk fn fq,fo,(λe=>by rw[e,fj] at fn;cases fn),(λe=>by rw[e,fj] at M;cases M),(λe=>by rw[e,fn] at M;cases M),(λe=>fq (vG mH)))
 have fs:sL fg SL (nF ch.map):=fk _ _ cj (by
  rintro(z|z)
  .rw[z,ai] at cj;cases cj
  exact cm z)
 have cx:p≠Y:=Asr fb;refine(mKW SL (oM fs));refine E4 (K:=K) (a:=SL) (xs:=nF ch.map) (λj σ D=>∃v4 ft v6 ct fu fv v10 fw,σ=[bP,mG mp,mG SL,aOS,v4,ft,v6,ct,fu,fv,v10]/\yE Y fg D/\D Y=rK fw/\fw.length<=2*cQ /\Tj m cQ fw)
  (48,19,_,[],86,ff,aR,λq Am h=>by have:B3 m 0=0:=rfl;omega) (λj σ D _ (_,_,_,_,_,_,_,_,_,fx,_)=>mN (mV fx fs (λe=>by rw[e,fj] at cj;cases cj))) ?_ ?_
 .rintro j y σ D hj ⟨v4,ft,v6,ct,fu,fv,v10,fw,rfl,fx,fy,fz,f0⟩;rw[ArY] at hj;obtain⟨q,hq,rfl⟩:mG1 ch[j]?:=by
   cases e:ch[j]? with
   |none=>rw[e] at hj;cases hj
   |some x=>rw[e] at hj;exact lU
  obtain⟨c3,L,AT,f1,f2,f3,f4,f5,f6,f7,f8⟩:=fl j q hq;have f9:=Qa (GH f1);have hole:=aOR;refine(L,_,mV fx f3 f5,167);have ga:Fr (uY Y L) fg (Aa D L (mGS aJo)):=(mHt fx.As).Aa dZ;refine(199,ga _ _ f2 (by rintro(e|e);exact f6 e;exact f7 e),170,2,L,od,0,Af,5);refine Fn (J:=Lv L od aJo) iN.length (λi σ gb=>∃v10 fw,σ=[bP,mG mp,mG SL,aOS,mG q,ft,v6,ct,fu,fv,v10]/\Fr (uY Y L) fg gb/\gb L=some (mGS aJo)/\gb Y=rK fw/\fw.length<=2*aDD /\Tj m aDD fw)
   (_,fw,2,ga,Af,by rw[nQ f5];exact fy,4,f0) (λi σ gb d1 (_,_,_,_,h,_)=>(h,by rw[CY,ArX,As4];exact d1)) (λσ gb (_,_,_,_,h,_)=>(h,by rw[CY,ArX,As4];exact aF)) ?_ ?_
  .rintro i σ gc y gb d1 ⟨gd,ge,rfl,gf,gg,gh,gi,gj⟩ ⟨rfl,ky,gk,gl,rfl⟩;have o:ky=EU aDD:=by
    rw[CY,ArY,AsY d1] at gl;have:=Ase gl;injection this with this _
    exact this.symm
   subst o;obtain⟨gm,gn⟩:=AqG m f1 d1 f4;have go:=AfB cQ AT _ i d1;have Ji:∀x,x<=400->(1<<<x:Nat)<2 ^ 1000:=λx hx=>(by rw[AsE];exact aJl);refine(199,(gf _ _ f2 (by rintro(e|e);exact f6 e;exact f7 e)),170,30,L,0,mH (mQo i gg),17,(gf _ _ fc (by rintro(e|e);exact cx e;exact f8 e)),35,T.RK,30,Y,0,mH (ge,EU aDD,gh,2,aBI,2),5);have ao:Fr (uY Y L) fg (Aa gb Y (.dK (mK6 Dy mE))):=gf.Aa aZ;have gp:=ao _ _ fc (by rintro(e|e);exact cx e;exact f8 e);refine(199,(ao _ _ f2 (by rintro(e|e);exact f6 e;exact f7 e)),170,30,L,0,.inl (mQo i (oN f5 gg)),17,gp,87,2,1<<<(cQ+AT i),bX,29,aXH,17,gp,35,T.RK,30,17,gp,87,2,1<<<aDD,bX,29,aXH,Y,0,.inl (_,EU (cQ+i+bX),Af,by show mQp aDD=V.int _;rw[<-Awb],BA (by have:=mK6 Jo mQ;omega),2),5);rw[B1];refine(3,gf.Aa aZ,by rw[Ah f5];exact gg,Af,5,λgq Am b8=>?_)
   .have r:=mK6 Jo mQ;refine AsV (uR Jo) ?_;omega
   rw[MI,MI];have gr:∀x,tP x Am=x+aF3:=λx=>rfl;by_cases e:gq=cQ+i
   .subst e;refine(cQ+AT i,4,gn,5);rw[gr,gr]
    cases Am with
    |false=>
     rw[mM (λz=>by have:=PZ z;simp at this),mK aC];simp
    |true=>
     rw[mK aC];show some (mQp (cQ+AT i))=mB (V.int _);rw[<-Awb];simp
   obtain⟨gs,g1,g2,g3⟩:=gj gq Am aA;refine(gs,g1,g2,5);rw[aXI,aXI];exact g3
  rintro σ gb ⟨gd,ge,rfl,gf,gg,gh,gi,gj⟩;refine(gg,48,19,_,ge,2,λc u e n=>?_,by rw[nQ f5];exact gh,by rw[f9];exact gi,by rw[f9];exact gj);by_cases z:c=L
  .subst z;rw[Af,<-f3];exact e
  rw[Ah z];exact gf c u e (by rintro(h|h);exact n h;exact z h)
 rintro σ D ⟨v4,ft,v6,ct,fu,fv,v10,fw,rfl,fx,fy,fz,f0⟩;rw[ArX,ck] at f0;have gt:B3 m m.feet.length=aU.length:=(by unfold B3 An;rw[AsC]);rw[gt] at f0;refine k d U Y fw D (λc u e n=>?_) (mV fx fc cx) ?_ (fx _ _ fe (λe=>by rw[e,ff] at fe;cases fe)) fy f0
 .have o:=qS e;have O:=fk _ _ o (by
   rintro(z|z)
   .exact n z
   rw[z,bx] at o;cases o)
  exact mV fx O (λz=>by rw[z,fj] at o;cases o)
 obtain⟨I,g1,g2,g3⟩:=fh;refine(I,fx _ _ g1 (λe=>by rw[e,ff] at g1;cases g1),g2,aOV);have:=mHs g3;exact mQn fx ff
theorem Xo(a:n<2 ^ k):DJ h n<2 ^ (h+k):=by refine Nat.or_lt_two_pow (yL a) ?_;rw[Awi,Nat.pow_add,Avu];exact Nat.mul_lt_mul_of_pos_left a (AuS h)
theorem AqK(h:aJp):Aej aJ:=by
 have Kl:∀{x k:Nat},x<2 ^ k->k<=1000->x<2 ^ 1000:=λa b=>Ass a (As5 aA b);have mk:∀q,mBl q<2 ^ aU.length:=λq=>(mQq q);have ev:aAf - 1<2 ^ aU.length:=by rw[AsE];grind
 refine(by show aU.length+1<=1000;omega,Kl (mk _) aA,aXJ,λn=>?_);have f1:mCv aJ.Ej:=aXJ;have f2:mCv aJ.Ek:=Kl (Xo ev) aA;unfold BR.B2;split
 .exact Nat.xor_lt_two_pow f2 f1
 split
 .exact f1
 exact f2
theorem AfM(a:aJp)(hp:H p=mQh b)(hd:F9 H d aJ.BP)(hf:H f=mB aCa):G8 t H p aJ:=
 (AqK a,dx,_,d,f,hp,(138,29,29),hd,hf)
theorem AqL(h:nI aCb.testBit p):∃q Am,q<aU.length/\p=B5 aJ.AW q Am:=by
 have e:aCb=DJ bX aDS:=rfl;rw[e] at h;unfold DJ at h;rw[Ate,Atx,Atr,AsE,Aui,Aui] at h;rcases h with h|h
 .exact(p,99,Aut h,2)
 rw[AsF,Aup,Aup] at h;exact(p - bX,true,h.2,by show p=p - bX+bX;omega)
theorem AqM(a:aJp)(h:aXu):
 ∃tw:bD,∀p,aJq=true->Bc b aII=mW ((1<<<tw p:Nat):Int)/\tw p<1000/\∀l,C8 aJ l p↔C8 aJ l (tw p):=by
 have key:∀p,∃y,aJq=true->Bc b aII=mHm y/\y<1000/\∀l,C8 aJ l p↔C8 aJ l y:=by
  intro p;by_cases hp:aJq=true
  .obtain⟨q,Am,hq,rfl⟩:=AqL hp;obtain⟨e,f,⟨c,d,hc,hd,g⟩,i⟩:=h q Am hq;refine(tP e Am,λ_=>(i,5,λl=>AnD m _ q e c d hc hd rfl g l Am));have hb:tP e Am<=e+bX:=by
    show e+aF3 <=_;split<;>omega
   omega
  exact(60,λh=>nL h hp)
 exact(λp=>(key p).choose,λp=>(key p).choose_spec)
def JK(st:bV)(k:Nat):Nat:=fX.length+1
def Qg(st:bV)(ms:Nat)(A7:bD):Prop:=(∀k,k<st.length->A7 k=JK st k)\/((∀k,A7 k=0)/\∀r:aB,r.Nodup-> lT ->r.length<=ms->AM (uF aDE)<=256)
def AqN(t:Aw):Sp:=λvs H Q _=>∃(L:Addr)(st:bV)(ms:Nat),vs=[mF L,aJr]/\H L=zO st/\st.length<=64/\(mOa 23)/\ms<=64/\
 ∀(A7:bD)(D:Addr)(H':Hp),aO ->H D=none-> dQ=nW (aAO.map A7)-> aJs -> eS
theorem AfN(l:bG)(n:Nat):mF0 (sD V.int) (n:Int)=(zC n).map V.int:=by unfold Dx;rw[HT.Ki,HT.Hz,Atv,Nat.sub_zero,ArX,AuM];simp
theorem AfO:∀n:Nat,(oX n gI).flatten=mK7 n
 |0=>rfl
 |n+1=>by
  have h:mK7 (n+1)=mK7 n++gI:=(pD Atl);rw[h,<-AfO n,List.replicate_succ',List.flatten_append];rfl
abbrev AqO:List Str:=aXK
theorem Tk:AD aXK aLU (A0 Ve):=aG
theorem AqP(T:aD):A4 P w K mg base A9 1 t.LL t.AbZ aLU (AqN t):=by
 refine oW T.LL.F.ok Tk
 .obtain⟨L,st,ms,rfl,_⟩:=h;rfl
 obtain⟨L,st,ms,rfl,b,ac,c,ae,k⟩:=h;obtain⟨af,d,e⟩:=T.V0;refine(_,(Ak (HD (i:=2) rfl Tk.nd rfl rfl jH aC4 (qD ("text",3,) AqO Ve) (pE 3 Tk.nd) cI (pZ (vK (wJ HB bF))))
  (Ak (qE Tk.nd (AoB (K:=K) rfl rfl T.AcM aW))
  (Ak (nG (pB DB (mGh (mT (mDV bI aQ))) (vK (nT d e))) (vM (mDU aAE)))
  aBN))),5)
 refine(0,L,2,(oM b),λC g=>?_);refine EA (J:=qJ L) st.length (mK3 C (aB7.map aDE)) (yB g)
  (λj H1 hj l=>(sO l.1 b hj)) (λH1 l=>(rO l.1 b)) ?_ ?_
 .rintro j H1 y m hj ⟨s1,n⟩ ⟨rfl,hy⟩;have o:=qW s1 b;rw[ArY,cW] at o;obtain rfl:rX st[j]=y:=aAX;have hle:=c st[j] (Asw hj);refine jM;refine(0,mk st[j],2,fT,8,_,n,mA4 As4,qH s1 g,5);rw[Af,Atl];have:JK st j=st[j].length+1:=(by unfold JK DG;rw[Asv,cW];rfl);simp[this,BT]
 rintro H1 ⟨s1,n⟩;have p:=n;rw[KS] at p;refine(0,C,0,mN p,λns S q u v=>?_);have s2:Ab H1 (nE H1 S iB):=mP v;have z:mAa H1 S iB:=Af;generalize Aa H1 S (.Ac iB)=m at s2 z;refine(40,S,0,mN z,λB G=>?_);rw[AfN];have s3:Ab m (Aa m B (mCJ ms)):=mP G;have I:wW m B (mCJ ms):=Af;generalize Aa m B (mCJ ms)=M at s3 I;have N:=aAI;refine(B,0,mN I,8,55);by_cases hle:aOY.sum<=256
 .rw[show decide (aOY.sum<=(255:Int)+1)=true from mU hle];refine Au (jP,λZ ag=>?_);have s4:Ab M (nE M Z [cB]):=mP ag;have O:mAa M Z [cB]:=Af;generalize Aa M Z aFr=ah at s4 O;have U:=pR s1 N s4;refine(0,L,0,wN U b,Z,8,O,34,34,by rw[ArX];exact AL (by show 1*(Int.toNat _)<=_;omega),λD Y=>?_);refine k aDi D _ (oR U Y) (BL U Y) ?_ (mI (lM,λr ai aj ak=>?_))
  .rw[Af,ArX];congr 2;have:((st.length:Nat):Int).toNat=st.length:=aA;rw[this];exact AfO st.length
  have h4:=Aoi (f:=aDE) ai aj (q.trans aXL) u;have al:=Aoj (fs:=ns) dY ak
  .omega
  have:=q.mem_iff.mp hx;obtain⟨a,_,rfl⟩:=pA this;omega
 rw[show decide (aOY.sum<=(255:Int)+1)=false from mS hle];refine Az (0,k aDE C _ (mX s1 N) g (mC N n) (.inl λ_ _=>rfl))
theorem AqQ(h:l≠[]):GD l∈l:=by
 induction l with
 |nil=>exact aAg
 |cons a l c=>
  by_cases e:l=[]
  .subst e;have d:=WI (l:=[a]) (x:=a) aC;have f:=AeB (l:=[a]) (b:=a) aC;rw[show GD [a]=a by omega];simp
  have d:=c e;have f:GD (a::l)=max a (GD l):=by rfl
  grind
def AqR(t:Aw):Sp:=λvs H Q _=>∃(mp W:Addr)(m:Bi)(Aq:Nat)(ws:aP)(wd:Nat->Wd),vs=[mF mp,mF W,xY mE]/\mCf H/\m.Ok/\H W=pF ws.map/\(∀(k:Nat)(q:Addr),ws[k]? =dA ->Er t H q (wd k))/\ws.length<=64/\
 ∀(ms:Nat)(H':Hp),aO ->ms<=Aq->ms<=ws.length->(∀r:aB,r.Nodup->(∀k∈r,k<ws.length)->r.length<=Aq->AM (mQr r.map)<= aIs ->r.length<=ms)->oJ aJr
abbrev Xp:List Str:=aXM
theorem HR:AD aXM aLV (A0 R5):=aG
theorem AqS(T:aD):A4 P w K mg base A9 1 t.LM t.Ab_ aLV (AqR t):=by
 refine oW T.LM.F.ok HR
 .obtain⟨mp,W,m,Aq,ws,wd,rfl,_⟩:=h;rfl
 obtain⟨mp,W,m,Aq,ws,wd,rfl,hm,ac,ae,af,ag,k⟩:=h;obtain⟨ah,f,c,ai,⟨a,b,aj,ak⟩,_⟩:=id hm;have al:=ac.KY;refine(_,(Ak (A6 (i:=3) HR.nd rfl eG (Bh (mJV K5) rfl T.K3 K4 (Ad (Dk rfl HR.nd aAH (qD ("ways",5,) Xp R5) (pE 5 HR.nd) cI (λ_ _ _ _ _=>(Bh (mJV Ak9) rfl T.Akw Ak2 (Ad (Dk rfl HR.nd (qC bQ) (BZ (own:=[("way",4,)]) (by show BV Xp ({kind:= .function,names:=[(".0",.local,),("ways",.local,),("max",.globalImplicit,)],isGenerator:=false,isCoroutine:=false}:Scope) _ _=true;decide+kernel)) (pE 4 HR.nd) cI (pZ (wJ HB bI))) Ai)))) Ai)))
  (Ak (tG HR.nd (Bh (rZ Ao7) rfl T.AcM AcQ (Ad (Dk rfl HR.nd aEH (qD ("word",7,) Xp R5) (pE 7 HR.nd) cI (λ_ _ _ _ _=>(mGj (rZ C4) (mT (mJL (sN (qK 7) Ar)))))) Ai)))
  (Ak (mEx HR.nd (mJK (oV aW (uD pv 1))))
  (Ak (Ka Asq (pB Li (mGh (mT (mDV cC kJ))) bF) (Ao (mJG 8 HR.nd Y0)))
  (oL kJ))))),5)
 refine(176,ah,3,ai,105,2,f,2,(oM b),λam an=>?_);refine EA (J:=qJ f) m.feet.length (mK3 am (mJ4 (m.feet.take j).map)) (yB an)
  (λj H1 hj d=>(sO d.1 b (by omega:j<a.length))) (λH1 d=>(rO d.1 b)) ?_ ?_
 .rintro j H1 y g hj ⟨s1,n⟩ ⟨rfl,hy⟩;have ao:j<a.length:=aA;have o:=qW s1 b;rw[ArY,mJ ao] at o;obtain rfl:nC a[j]=y:=aAX;have p:=qS (ak j a[j] m.feet[j] (mJ ao) cW);obtain⟨ap,aq,ar⟩:=mCX ac.Bz j hj;have as:mAV m.feet.take m.feet[j]:=(vB AsA hj);rw[as];generalize m.feet[j]=ff at*;refine jM;refine(0,a[j],2,(oM p),λL2 u=>?_);refine EA (J:=qJ a[j]) ff.length (λi v=>Ab g v/\v L2=nW (mAc (ff.take i).map)) (yB u)
   (λi v z B=>(sO B.1 p z)) (λv B=>(rO B.1 p)) ?_ ?_
  .rintro i v y C z ⟨s3,D⟩ ⟨rfl,hy⟩;have o:=qW s3 p;rw[ArY,mJ z] at o;obtain rfl:rX ff[i]=y:=aAX;have au:zK ff[i].length:=by
    have:=ar ff[i] (Asw z);simp only[Eh,Bool.and_eq_true,decide_eq_true_eq] at this;omega
   refine jM;refine(0,mk ff[i],2,fT,_,D,mA4 AsS,qH s3 u,5);have av:sS ff.take=ff.take i++[ff[i]]:=(vB AsA z);rw[Af,av,As7];rw[BT];simp only[iv,List.map_append];rfl
  rintro v ⟨s3,D⟩;rw[AsC,KS] at D;refine(L2,0,mN D,by rw[ArX,ArX];omega,λmx aw ax=>?_);obtain⟨x,hx,rfl⟩:=pA aw;have hxm:x=GD (mAc ff.map):=by have G:=WI hx;have I:=ax _ (AtE (AqQ (λe=>by rw[At2] at e;rw[e] at aq;simp at aq)));omega
  subst hxm;refine(_,rY n,mA4 AsS,vO s1 s3 an,5);rw[Af];simp
 rintro H1 ⟨s1,n⟩;rw[AsC,KS] at n;refine(mCC am n);rw[WM];have L:=qS ae;refine(0,W,2,(oM L),λay D=>?_);refine EA (J:=qJ W) ws.length (λj g=>tD g/\g ay=nW (mQr aB7.map)) (yB D)
  (λj g hj M=>(sO M.1 L hj)) (λg M=>(rO M.1 L)) ?_ ?_
 .rintro j g y v hj ⟨s2,u⟩ ⟨rfl,hy⟩;have o:=qW s2 L;rw[ArY,cW] at o;obtain rfl:nC ws[j]=y:=aAX;obtain⟨az,a0,a2,d,a3,a4,_,⟨a5,a1,a6,a7⟩⟩:=af j ws[j] cW;have N:=lS;refine jM;refine(0,ws[j],_,az,3,mC N a3,62,2,a0,36,qX N a4,dW,d,_,a5,3,mC N a6,26,a1,0,wN N a7,_,u,mA4 As4,qH s2 D,5);rw[Af,Atl];simp
 rintro g ⟨s2,u⟩;rw[KS] at u;refine(ay,0,mN u,λns S a8 a9 ba=>?_);have s3:Ab g (nE g S iB):=mP ba;have bb:=aHY;refine(16,W,0,wN bb ae,3,5);rw[ArX];have emin:(if((ws.length:Nat):Int)<(Aq:Int) then((ws.length:Nat):Int) else(Aq:Int))=((min Aq ws.length:Nat):Int):=(by split<;>omega);rw[emin];refine(λO σ C=>∃c:Nat,O=c/\σ=aXN /\c<=Aq/\c<=ws.length/\Ab H C/\C S=nV iB /\∀r:aB,aXO,(8,4,4,bb,Af,λr G I bc _=>?_),5)
 .have:=Oj (l:=r) (m:=oP ws.length) G (λx hx=>mCS (oY I));rw[As4] at this;omega
 rintro O σ C ⟨bd,rfl,rfl,be,bf,s4,bg,bh⟩;refine(40,S,0,mN bg,λU bi=>?_);rw[AfN];have s5:Ab C (Aa C U (mCJ O)):=mP bi;have bj:wW C U (mCJ O):=Af;generalize Aa C U (mCJ O)=bk at s5 bj;have bl:=mX s4 s5;refine(U,0,mN bj,0,55);by_cases Y:((GF m.feet:Nat):Int)<(ns.take O).sum
 .rw[mU Y];have ai:1<=O:=by
   rcases Nat.eq_zero_or_pos O with e|e
   .rw[e,AwK] at Y;have:([]:bG).sum=0:=rfl;omega
   exact e
  have bm:mDY ((O:Nat):Int) O:=aA;refine Au (λbn H'=>∃bo,bo<O/\∃c:Nat,bo=c/\bn=aXN /\c<=Aq/\c<=ws.length/\ aO /\H' S=nV iB /\∀r:aB,aXO,λbn H' q=>q,5);refine(0,8,O - 1,4,O - 1,2,by rw[<-bm];rfl,4,4,bl,vQ bg,λr G I bc h4=>?_);have bp:=bh r G I bc h4;rcases Atq r.length O with h6|h6
  .omega
  exfalso;have bq:=Aoh (f:=λk=>(wd k).CO.A2.length) G I (a8.trans aXL) a9;rw[show r.length=O by omega] at bq;omega
 rw[mS Y];exact Az (0,k O bk bl be bf bh)
def Ot(sh:BU):Ky:= .Al [.num (sh.Bk:Int),.Al (mK8 sh.A2.map)]
def Fv(wd:Wd)(c:Nat):Ky:= .Al [.num (wd.vf:Int),Ot wd.DF,Ot wd.CO,.num (c:Int)]
theorem AfP(h:Ot a=Ot b):a=b:=by
 obtain⟨l,ws⟩:=a;obtain⟨c,d⟩:=b;injection h with h
 injection h with e f
 injection f with f _
 injection e with e
 injection f with f
 have g:=AtA e;have i:=(Au3 (λa b h=>by injection h with h;exact AtA h)).mp f;subst g i;rfl
theorem AfQ(h:Fv a c=Fv b d):a=b/\c=d:=by
 obtain⟨v,s0,s1⟩:=a;obtain⟨v',e,f⟩:=b;injection h with h
 injection h with g i
 injection i with i j
 injection j with j h4
 injection h4 with h4 _
 injection g with g
 injection h4 with h4
 have k:=AfP i;have e3:=AfP j;grind
theorem AfR:∀ws:aB,Ld H (mK8 ws.map) (iv ws)
 |[]=>rfl
 |x::ws=>(3,aZ,AfR ws)
theorem AfS:∀ws:aB,Ky.C2 (mK8 ws.map)=0
 |[]=>rfl
 |x::ws=>by simp only[List.map_cons,Ky.C2,Ky.depth,AfS ws];rfl
def JL(H:Hp)(a:Addr)(sh:BU):Prop:=∃b,H a=oI [mE (sh.Bk:Int),bW]/\H b=oI aEM
theorem JL.same(h:JL H a sh)(s:aO):JL H' a sh:=let(b,g,i):=h;(b,nH g,nH i)
theorem AfT(h:JL H a sh):JV H (Ot sh) aI:=by obtain⟨b,c,d⟩:=h;exact(mPl a c (b,0,d,AfR _))
theorem AqT(h:H R=aXP)(h0:JL H a wd.DF)(d:JL H b wd.CO):Dv H (Fv wd c) R:=by refine(oH (R,192,AfT h0,3,AfT d,3,aZ,2));simp only[Fv,Ot,Ky.depth,Ky.C2,AfS];decide
def Hl(H:Hp)(R:Addr)(wd:Wd)(c:Nat):Prop:=∃a b,H R=aXP /\JL H a wd.DF/\JL H b wd.CO
theorem Hl.same(h:aOZ)(s:aO):Hl H' R wd c:=let(a,b,g,i,j):=h;(a,b,143)
theorem Hl.ky(h:aOZ):Dv H (Fv wd c) R:=let(_,_,g,i,j):=h;AqT g i j
def AqU(t:Aw):Sp:=λvs H Q _=>∃(p:Addr)(wd:Wd)(c:Nat),vs=[aS,aBS]/\mF3 p/\∀R H',aO ->H R=none->Hl H' R wd c->sQ R
abbrev AqV:List Str:=aXQ
theorem Xq:AD aXQ aLW (A0 Vg):=aG
theorem AqW(T:aD):A4 P w K mg base A9 1 t.LN t.Aca aLW (AqU t):=by
 refine oW T.LN.F.ok Xq
 .obtain⟨p,wd,c,rfl,_⟩:=h;rfl
 obtain⟨p,wd,c,rfl,⟨a,d,f,g,n,o,ac,ae⟩,k⟩:=h;refine(_,(Ak (HD (i:=2) rfl Xq.nd rfl rfl jH (mB7 V8 aX) (qD ("shape",3,) AqV Vg) (pE 3 Xq.nd) cI (mDM (CV (Ad dE (mT (mP7 (mT dE)))))))
  (Ao (A3 (CV (Ad aX (Ad gS (oV gS aQ))))))),5)
 refine(7,a,3,n,62,2,d,2,(_,nO o),λL q=>?_);refine EA (J:=GU K d) 2 (λi u=>∃l:aP,Ab H u/\u L=pF l.map/\l.length=i/\∀(m:Nat)(r:Addr),l[m]? =mB r->JL u r (wd.sh m)/\∃xs,u r=fL)
  ([],mP q,88,9) (λi u v (_,z,_)=>(19,qX z o,mG2 f g v)) (λu (_,z,_)=>(_,qX z o,aF)) ?_ ?_
 .rintro i u y B v ⟨l,z,C,D,G⟩ ⟨rfl,hy⟩;have af:=hy _ (qX z o);obtain⟨pi,rfl,ag⟩:mPB H aO0:=by
   rcases(by omega:wU i) with rfl|rfl
   .exact(mG3 f af ac)
   exact(mG3 g af ae)
  obtain⟨ah,ai,aj,ak⟩:=ag.same z;refine jM;refine(0,pi,_,ah,3,aj,61,30,pi,_,ah,3,aj,26,ai,0,mH (mN ak,fM));refine(gL,λe he=>?_);have I:Ab B aJt:=oR (mP hb) he;have ce:(aJt) e=some (.Al [mE (aO0.Bk:Int),bW]):=Af;have al:(aJt) b=some (.Al (iv aO0.A2)):=zQ he Af;have am:=mC I C;have M:∀{c:Addr}{xs:aK},(aJt) c=fL ->c≠L:=λN an=>(by rw[an,am] at N;cases N);refine(_,am,fU,l++[e],vO z I q,23,by simp[D],λm r hm=>?_);by_cases ao:m<l.length
  .rw[Ask ao] at hm;obtain⟨⟨ap,aq,ar⟩,xs,as⟩:=G m r hm;refine((ap,by rw[mK9 aq];exact mC I aq,by rw[mK9 ar];exact mC I ar),xs,by rw[mK9 as];exact mC I as)
  have au:=(nS hm).1;rw[Asi,AsD] at au;obtain rfl:m=i:=aA;rw[eL,D,At9] at hm;obtain rfl:e=r:=aGM;exact((b,120,by rw[Ah (M al)];exact al),_,120)
 rintro u ⟨l,z,C,D,G⟩;obtain⟨O,U,rfl⟩:∃x y,l=aAt:=by
  match l,D with
  |[x,y],_=>exact aHM
 obtain⟨h0,_⟩:=G 0 O rfl;obtain⟨N,_⟩:=G 1 U rfl;refine(7,a,3,mC z n,80,30,147,cN,0,147,dW,0,(mAC 4),λR av=>?_);have Y:Ab u (Aa u R (.Al [aHT,mF O,mF U,aBS])):=mP av;exact k R _ (mX z Y) (BL z av) (O,U,Af,h0.same Y,N.same Y)
def AqX(t:Aw):Sp:=λvs H Q _=>∃(p dx wp a b:Addr)(vf c:Nat),vs=[aS,mF wp,aBS]/\H p=rM t.CM/\p≠wp/\H wp=mB (.Ag t.IC a (Adj vf b))/\
 Q .Ax (qV (nB t.CM [("vowel_first",mE (vf:Int),),("shapes",bW,),("cost",aBS,),("words",cB,)]))
theorem AqY:AD aHt aHt (A0 Aa8):=aG
theorem AqZ(T:aD):A4 P w K mg base A9 1 t.Nm t.AbY aHt (AqX t):=by
 refine qI T.Nm.F.ok AqY
 .obtain⟨p,dx,wp,d,e,vf,c,rfl,_⟩:=h;rfl
 obtain⟨p,dx,wp,d,e,vf,c,rfl,hp,f,hw,k⟩:=h;refine(_,(Ak aH5
  (Ak aH5
  (Ak lQ
  aEU))),5)
 refine(0,wp,_,d,3,hw,80,2,97,hp,47,T.Ph,bB,0,wp,_,d,3,by rw[nQ f];exact hw,62,2,97,Af,47,T.Pk,189);rw[B1];refine(mAW T.En.c T.RL 2);rw[B1];refine(yC T.En.c T.RM 3);rw[B1];exact k
structure Qh where
 dx:Addr
 vf:Nat
 sh:Addr
 Bl:Nat
abbrev GI(r:Qh)(M:Nat):List gG:=[("vowel_first",mE (r.vf:Int),),("shapes",mF r.sh,),("cost",mE (r.Bl:Int),),("words",aIH,)]
def CT(a:aP)(i:Nat):Addr:=a.getD i 0
theorem Aq_(h:a[i]? =dA):CT a i=q:=by unfold CT;rw[Asv,h];rfl
def Eg(oq a:aP)(i:Nat):Nat:=oq.count (CT a i)
theorem AfU(f g:bD):∀n,pJ (λi=>f i+g i)=pJ f+pJ g
 |0=>rfl
 |n+1=>by show pJ _+(f n+g n)=_;rw[AfU f g n];show _=(pJ f+f n)+(pJ g+g n);omega
theorem Xr:∀{n:Nat},(∀i,i<n->f i=g i)->pJ f=pJ g
 |0,_=>rfl
 |n+1,h=>by show pJ f+f n=pJ g+g n;rw[Xr (λi a=>h i aA),h n aA]
theorem AfV(hd:b.Nodup)(a:Addr):∀n,n<=b.length-> aXR <=1/\((∀i,i<n->a≠CT b i)-> aXR=0)
 |0,_=>(by show 0<=1;omega,lM)
 |n+1,c=>by
  obtain⟨d,f⟩:=AfV hd a n aA;constructor
  .show pJ _+(mLa a b n)<=1;by_cases e:a=CT b n
   .rw[bU,f (λi g z=>by
     have g1:pC b[i]? (CT b i):=(mEE aA);have g2:pC b[n]? (CT b n):=(mEE aA);rw[<-z] at g1;rw[<-e] at g2;have:=mKK hd g1 g2;omega)]
    omega
   rw[bN];omega
  intro h;show pJ _+(mLa a b n)=0;grind
theorem Xs(hd:b.Nodup):∀(oq:aP)(n:Nat),n<=b.length->mBe b n<=oq.length
 |[],n,c=>by
  have:pJ (Eg [] b)=Bv aDi n:=Xr λi _=>(by unfold Eg;simp);rw[this];have z:∀n,pJ aDi=0:=λn=>by induction n with
   |zero=>rfl
   |succ n d=>show pJ _+0=0;rw[d]
  rw[z];simp
 |a::oq,n,c=>by
  have e:pJ (Eg (a::oq) b)=Bv (λi=>Eg oq b i+(mLa a b i)) n:=Xr λi _=>by unfold Eg;grind
  rw[e,AfU];have:=Xs hd oq n c;have:=(AfV hd a n c).1;rw[As1];omega
def Ou(M a b:Nat):Prop:=∀x,aNz=true↔a<=x/\x<b
theorem Ara(h:Ou M a b)(c:a<=b):Ou (M|||1<<<b) a (b+1):=λx=>by rw[Ate,Atx,h x,Eb];omega
theorem Arb(a:Nat):Ou 0 a a:=λx=>by simp
def Arc(K:PySem.W.Frag)(t:Aw):Sp:=λvs H Q _=>∃(p a SA OA:Addr)(b:dO)(d oq:aP)(R:aJu),vs=[aS]/\H p=mB (.Ag t.Cp a b)/\b.lookup ("sorts":Str)=mG SA/\b.lookup ("sort_of":Str)=mG OA/\H SA=pF d.map/\H OA=pF oq.map/\d.Nodup/\oq.length<=64/\d.length<=64/\(∀q∈oq,q∈d)/\p∉d/\ aJv /\
 (∀(i:Nat)(q:Addr),d[i]? =dA ->H q=mCK i 0)/\
 ∀H',tM (λc=>c∈d)->(∀(i:Nat)(q:Addr),d[i]? =dA ->∃M,H' q=mCK i M/\mQs d)-> cU
theorem Qi:AD ["self","upcoming","sort","number"] cK (A0 Aa9):=aG
theorem Ard(T:aD):A4 P w K mg base A9 1 t.No t.Acc cK (Arc K t):=by
 refine oW T.No.F.ok Qi
 .obtain⟨p,b,SA,OA,d,f,oq,R,rfl,_⟩:=h;rfl
 obtain⟨p,b,SA,OA,d,f,oq,R,rfl,hp,ac,ae,g,l,m,af,ag,ah,ai,aj,hq,k⟩:=h;refine(_,(Ak (tE Qi.nd Ar)
  (Ao (BS Asq rfl aAH (oC 2 Qi.nd) (Ao (BS Asq rfl (OH rfl T.L_ (mT (Dz (K:=K) rfl As3 F.slot_list_count F.type_list_count (mB7 Ao9 aBQ) aX kH))) (oC 3 Qi.nd) (Ak (GW aW aQ FX)
  (Ao (mJG 1 Qi.nd AoJ)))))))),5)
 have ak:SA∉f:=λh=>by obtain⟨i,o,e⟩:=Asy h;have:=wX hq i o;rw[e,g] at this;cases this
 have r:OA∉f:=λh=>by obtain⟨i,o,e⟩:=Asy h;have:=wX hq i o;rw[e,l] at this;cases this
 refine(7,b,d,0,hp,59,T.RN,ac,SA,2,(oM g),5);refine E4 (K:=K) (a:=SA) (xs:=aHK) (λj σ v=>∃(up:Nat)(v2 B:bO),up=1<<<aFD /\σ=[bP,mW (up:Int),v2,B]/\Fr (λc=>c∈f) H v/\(∀(i:Nat)(q:Addr),i<j->f[i]? =dA ->∃M,v q=mCK i M/\mQs f)/\∀(i:Nat)(q:Addr),j<=i->f[i]? =dA ->v q=H q)
  ((1),14,29,Fr.refl,λi q h=>by omega,aXS) (λj σ v _ (_,_,_,_,_,fr,_)=>uI g ak) ?_ ?_
 .rintro j y σ v hj ⟨up,v2,B,C,rfl,fr,D,G⟩;rw[ArY] at hj;obtain⟨q,I,rfl⟩:mG1 f[j]?:=by
   cases e:f[j]? with
   |none=>rw[e] at hj;cases hj
   |some x=>rw[e] at hj;exact lU
  have al:=(nS I).1;have am:mBe f (j+1)=aFD+oq.count q:=(by show _+Eg oq f j=_;unfold Eg;rw[Aq_ I]);have an:=Xs m oq (j+1) al;have ao:=(G j q aF I).trans (hq j q I);have ap:∀J∈oq,∃dx fs,v J=some (nB t.CM fs):=λJ aq=>by
   obtain⟨i,o,e⟩:=Asy (ah J aq);have L:pC f[i]? J:=(mBo o e);rcases Atq i j with h|h
   .obtain⟨M,ar,_⟩:=D i J h L;exact(19,ar)
   exact(19,(G i J h L).trans (hq i J L))
  refine(7,b,d,0,mV fr hp ai,59,T.RO,ae,pL (mV fr l r),0,OA,q,t.CM,oq,29,uI l r,aj,(19,ao),ap,0,4,4,5);rw[show((oq.count q:Nat):Int).toNat=oq.count q by omega];refine QI (lo:=0) (n:=oq.count q) (λn σ N=>∃(up M:Nat)(B:bO),up=1<<<(aFD+n)/\σ=[bP,mW (up:Int),mG q,B]/\(∀c,c≠q->N c=v c)/\N q=mCK j M/\Ou M aFD (aFD+n))
   (up,60,B,C,2,gT,ao,Arb _) ?_ ?_
  .rintro n σ N as ⟨up',M,au,O,rfl,hk,U,Y⟩;refine(0,q,19,3,U,47,T.RM,30,13,19,U,(qZ 4),5);have av:up'<2 ^ 64:=(by rw[O,AsE];exact aJl);refine(0,up',(1),29,(mD6 av),up'<<<1,M|||up',_,by rw[O,<-Awb];rfl,2,λc hc=>by rw[gW];exact hk c hc,Af,by rw[O];exact Ara Y aA)
  rintro σ N ⟨up',M,au,O,rfl,hk,U,Y⟩;rw[<-am] at O Y;have aw:∀i J,i≠j->f[i]? =mB J->J≠q:=λi J ax he e=>by rw[e] at he;exact ax (mKK m he I)
  refine(up',19,O,2,λc u e ay=>by rw[hk c (λz=>ay (z▸Asl I))];exact uX fr ay,λi J o he=>?_,λi J o he=>?_)
  .by_cases e:i=j
   .subst e;rw[I] at he;obtain rfl:=Ase he;exact(mO M U Y)
   rw[hk J (aw i J e he)];exact D i J aA he
  rw[hk J (aw i J aA he)];exact G i J aA he
 rintro σ v ⟨up,v2,B,C,rfl,fr,D,G⟩;exact k v fr λi q he=>D i q (mAp ArX (nS he).1) he
abbrev WC:=Wd×Nat
def Fd(a:jQ)(b:aP):List (Ky×V):=(a.zip b).map λx=>(Fv x.1.1 x.1.2,nC x.2,)
theorem AfW:∀{b:jQ}{c:aP},a∉b->mLb b c=none:=by
 intro b c h
 cases e:mLb b c with
 |none=>rfl
 |some v=>
  obtain⟨x,hx,d⟩:=pA (Mq e);injection d with d _
  obtain⟨f,g⟩:=AfQ d;have:=(Avz hx).1;grind
theorem Xt:∀{c:jQ}{d:aP}{i:Nat},c.Nodup->c[i]? =mB a->d[i]? =dA ->mLb c d=mG q
 |[],_,i,_,h,_=>by simp at h
 |b::c,[],i,_,_,h=>by simp at h
 |b::c,f::d,0,_,g,j=>by
  obtain rfl:b=a:=(mR g);obtain rfl:f=q:=(mR j);exact FO (κ:=Ky) rfl
 |b::c,f::d,i+1,hd,g,j=>by
  rw[AtY] at hd;rw[AtM] at g j;have k:¬Fv b.1 b.2=Fv a.1 a.2:=λe=>by obtain⟨l,m⟩:=AfQ e;grind
  show Bc ((Fv b.1 b.2,nC f,)::Fd c d) _=_;rw[FP k];exact Xt hd.2 g j
theorem Are(b:jQ)(c:aP)(a:WC)(q:Addr)(h:c.length=b.length):Fd (b++[a]) (c++[q])=Fd b c++[(Fv a.1 a.2,nC q,)]:=by unfold Fd;rw[List.zip_append h.symm,As7];rfl
theorem AfX:∀(b:jQ)(c:aP),c.length=b.length->(Fd b c).map (·.2)=nF c.map
 |[],[],_=>rfl
 |[],q::c,h=>by simp at h
 |a::b,[],h=>by simp at h
 |a::b,q::c,h=>by
  show nC q::(Fd b c).map (·.2)=_;rw[AfX b c fE];rfl
structure EE(t:Aw)(H:Hp)(kA:Addr)(st:bV)(A7:bD)(j:Nat)(ks:jQ)(qs:aP)(R:aJu):Prop where
 kn:H kA=some (.dT (Fd ks qs))
 len:qs.length=ks.length
 Ov:ks.Nodup
 Mt:qs.Nodup
 le:ks.length<=j
 GJ:∀(i:Nat)(q:Addr),qs[i]? =dA ->H q=some (mLc i 0)
 Ow:∀(i:Nat)(a:WC),ks[i]? =mB a-> jR.vf=a.1.vf/\ jR.Bl=a.2/\∃p0 p1,H jR.sh=wS p0 p1/\wK p0 a.1.DF/\DE t H p1 a.1.CO
 ER:∀k,k<j->(eV,A7 k,)∈ks
 Qj:∀a∈ks,∃k,k<st.length/\a=(eV,A7 k,)
theorem EE.same(h:mHu u v)(s:aO):EE t H' g st A7 j u v R:=
 (nH h.kn,h.len,h.Ov,h.Mt,h.le,mQt nH,λi a e=>let(a1,a2,y,z,B,C,I):=h.Ow i a e;(a1,a2,y,z,nH B,C.same s,I.same s),h.ER,h.Qj)
theorem EE.keep(h:mHu s v)(hk:mKv g)(aa:H' g=vR ab):
 (∀(i:Nat)(q:Addr),v[i]? =dA ->H' q=mCK i 0)/\∀(i:Nat)(a:WC),s[i]? =mB a-> jR.vf=a.1.vf/\ jR.Bl=a.2/\∃y B,H' jR.sh=wS y B/\DE t H' y a.1.DF/\DE t H' B a.1.CO:=by
 have C:∀c u,H c=aM ->u≠ .dT (Fd s v)-> eJ=some u:=λc u e hu=>mQu hk h.kn;refine(mQt mCL,aO1);obtain⟨a1,a2,y,B,I,⟨J,L,M,O⟩,⟨Q,U,Y,ac⟩⟩:=h.Ow i a e;exact(a1,a2,y,B,mCL I,(J,L,mCL M,mCL O),(Q,U,mCL Y,mCL ac))
theorem EE.new(h:mHu s v)(hj:mAY j)(B:(gK,A7 j,)∉s)(hq:pP q)(hk:mKv g)
 (C:H' g=some (.dT (Fd s v++[(Fv gK (A7 j),mF q,)]))) (I:H' q=some (nB t.CM (GI aXT 0))) (aa:H' sh=wS J L) (h0:DE t H' J gK.DF) (ab:DE t H' L gK.CO):
 ∃M,EE t H' g st A7 (j+1) (s++[(gK,A7 j,)]) (v++[q]) M:=by
 obtain⟨O,ac⟩:=h.keep hk C;have Q:q∉v:=λz=>by obtain⟨i,U,e⟩:=Asy z;have:=wX h.GJ i U;rw[e,hq] at this;cases this
 refine(λi=>if i=s.length then aXT else jR,by rw[C,rH Are h.len],by simp[h.len],5,5,by have:=h.le;simp;omega,λi Y e=>?_,aO1,λk ae=>?_,aMx)
 .rw[AsT];exact(mQv h.Ov B)
 .rw[AsT];exact(mQv h.Mt Q)
 .by_cases U:i<v.length
  .rw[Ask U] at e;rw[mM (zP h.len)];exact O i Y e
  have af:=(nS e).1;rw[Asi,AsD] at af;obtain rfl:i=v.length:=aA;rw[lL,At9] at e;obtain rfl:q=Y:=hS;rw[mK h.len];exact I
 .grind
 .rcases(by omega:k<j\/k=j) with e|rfl
  .exact vD (h.ER k e)
  exact rV aC
 rcases oS ha with ha|ha
 .exact h.Qj a ha
 grind
theorem EE.BM(h:mHu i q)(s:(gK,A7 j,)∈i):EE t H g st A7 (j+1) i q R:=
 (h.kn,h.len,h.Ov,h.Mt,by have:=h.le;omega,h.GJ,h.Ow,λk hk=>(by omega:k<j\/k=j).elim (h.ER k) (λe=>e▸s),h.Qj)
theorem AfY{g:Nat->Addr}(hg:∀i k,i<n->k<n->g i=g k->i=k)(a:i<n):∀l:aB,(∀k∈l,k<n)->(sD g).count (g i)=l.count i
 |[],_=>rfl
 |k::l,h=>by
  rw[Asn,Aw0,Aw0,AfY hg a l (λx hx=>gN)];grind
noncomputable def Ew(c:jQ)(st:bV)(A7:bD)(k:Nat):Nat:=@List.idxOf WC (@instBEqOfDecidableEq _ aO2) (eV,A7 k,) c
theorem Mu(h:(eV,A7 k,)∈c):mCM c<c.length/\c[mCM c]? =some (eV,A7 k,):=by
 letI:BEq WC:=@instBEqOfDecidableEq _ aO2
 haveI:LawfulBEq WC:=@instLawfulBEq _ aO2
 have d:mCM c<c.length:=List.idxOf_lt_length_of_mem h;refine(oH d);rw[mJ d];congr 1;exact List.getElem_idxOf d
noncomputable def IX(a:jQ)(st:bV)(A7:bD):List Cr:=(oP a.length).map λi=>((a.getD i (WD,0,)).1,(a.getD i (WD,0,)).2,(mLd a).count i)
theorem Ox(a:jQ)(st:bV)(A7:bD):tO mAb a a.length:=by unfold IX;simp
theorem Oy(h:b[i]? =mB a):AH (mAb b) i=(a.1,a.2,(mLd b).count i):=by have c:=(nS h).1;unfold AH IX;grind
theorem EE.Arf(h:EE t H g st A7 st.length j q R):Oa st A7 (mAb j) (Ew j st A7):=by
 refine(aJw,aJw,aJw,λi=>?_)
 .rw[Ox];exact(aO3).1
 .rw[Oy (aO3).2]
 .rw[Oy (aO3).2]
 by_cases s:i<j.length
 .rw[Oy (mJ s)]
 rw[Afp (qT Ox)];symm;rw[List.count_eq_zero];intro hm;obtain⟨k,hk,e⟩:=pA hm;have:=(Mu (h.ER k (Atj.mp hk))).1;omega
theorem EE.AfZ{H:Hp}{j:Addr}{st:bV}{A7:bD}{q:jQ}{s:aP}{R:aJu}(h:EE t H j st A7 st.length q s R){oq:aP}(u:oq=aAO.map λk=>CT s (mCM q)):
 ∀i,i<=q.length->mBe s i=Bu (mAb q) i
 |0,_=>rfl
 |i+1,v=>by
  show mBe s i+Eg oq s i=Bu (mAb q) i+(AH (mAb q) i).n;rw[h.AfZ u i aA,Oy (mKr i q.length)];congr 1;rw[u,show(aAO.map λk=>CT s (mCM q))=(mLd q).map (CT s) by rw[AsB];rfl];refine AfY (n:=q.length) (λa b ha hb e=>?_) aA _ aJw
  .have g:∀a,a<q.length->s[a]? =some (CT s a):=λa ha=>(mEE (oD h.len ha));exact nodup_getElem? h.Mt (g a ha) (xF e nJ g)
  obtain⟨x,hx,rfl⟩:=pA hk;exact(Mu (h.ER x aI5)).1
abbrev Mv(ms:Nat)(SA OA:Addr):List gG:=[("most",aJr,),("room",mE 256,),("sorts",mF SA,),("sort_of",mF OA,)]
structure Qk(t:Aw)(H:Hp)(p dx:Addr)(m:Bi)(st:bV)(Aq ms:Nat)(A7:bD)(S:iI)(so:bD)(SA OA:Addr):Prop where
 at_:H p=some aO4
 Xu:JF t H SA S
 of:∃oq:aP,H OA=pF oq.map/\oq.length=st.length/\∀(k:Nat)(q:Addr),oq[k]? =dA ->HN t H q S (so k)
 AH:Oa st A7 S so
 Bl:Qg st ms A7
 Ql:ms<=Aq
 ms2:ms<=st.length
 ms3:∀r:aB,r.Nodup-> lT ->r.length<=Aq->AM (r.map λk=>eV.CO.A2.length)<= aIs ->r.length<=ms
 sl:S.length<=64
 Ol:aOg <=64
 BQ:∀i,i<S.length->∃k,k<st.length/\(Vp.AH S i).wd=eV
def Ari(K:PySem.W.Frag)(t:Aw):Sp:=λvs H Q _=>∃(p dx mp L:Addr)(m:Bi)(st:bV)(Aq:Nat),vs=aXU /\H p=rM t.Cp/\mCf H/\m.Ok/\H L=zO st/\ hN /\st.length<=64/\ aJv /\
 ∀(ms:Nat)(A7:bD)(S:iI)(so:bD)(SA OA:Addr)(H':Hp),tM eX->mQw H'-> cU
theorem Er.fr(h:mF3 q)(fr:tM B)(g:aXs):Er t H' q wd:=by
 have ne:∀c u,H c=aM ->u≠ nB C []-> eJ=some u:=λc u e hu=>fr c u e λhb=>by
  rcases g c hb with z|z
  .rw[z] at e;cases e
  rw[z] at e;exact aOW
 obtain⟨i,j,s,v,y,I,⟨J,a0,L,h4⟩,⟨M,a1,O,h6⟩⟩:=h;exact(i,j,s,v,mQm ne y,mCz ne I,(J,a0,ne _ _ L (λe=>by injection e with _ _ e;cases e),mCz ne h4),(M,a1,ne _ _ O (λe=>by injection e with _ _ e;cases e),mCz ne h6))
theorem Er.frD(h:mF3 q)(fr:tM B)(g:∀c,B c->∃i,H c=vR i):Er t H' q wd:=by
 have ne:∀c u,H c=aM ->(∀i,u≠ .dT i)-> eJ=some u:=λc u e hu=>fr c u e λhb=>by obtain⟨i,z⟩:=g c hb;rw[z] at e;exact hu i aAm.symm
 obtain⟨j,s,v,y,C,I,⟨J,a0,L,h4⟩,⟨M,a1,O,h6⟩⟩:=h;exact(j,s,v,y,mCN C,mCN I,(J,a0,mCN L,mCN h4),(M,a1,mCN O,mCN h6))
theorem Hl.keep(h:aOZ)(hk:aCn):Hl H' R wd c:=by obtain⟨a,b,g,⟨i,j,q⟩,⟨s,h4,u⟩⟩:=h;exact(a,b,mC hk g,(i,mC hk j,mC hk q),(s,mC hk h4,mC hk u))
abbrev Xv:List Str:=aXV
theorem HS:AD aXV aCR (A0 O_):=aG
theorem Ark(T:aD):A4 P w K mg base A9 6 t.Nn t.Acb aCR (Ari K t):=by
 refine T.Nn.F.ok HS cM aMU
 .obtain⟨p,dx,mp,L,m,st,Aq,rfl,_⟩:=h;rfl
 obtain⟨p,dx,mp,L,m,st,Aq,rfl,hp,hm,ab,ac,ae,af,ag,k⟩:=h;have hu:=F5 d;obtain⟨ah,ai,aj⟩:=T.V0;refine(_,(Ak (HD (i:=4) rfl HS.nd rfl rfl jH (qC aW) (qD ("text",5,) Xv O_) (pE 5 HS.nd) cI (λ_ _ _ _ _=>(Dc T.Fm.k (Adm T) eF rfl T.Fm.m T.LC.b .nil Ay (mT bQ))))
  (Ak (oF (Bb (AqS T) eF rfl T.LM.m T.LM.F.kp T.LM.b .nil Ay (Ad aQ (pS 4 3))))
  (Ak (oF (vK aMF))
  (Ak (HD (i:=6) rfl HS.nd rfl rfl jH (mDT (Ad bI (mT (Bb (AqP T) eF rfl T.LL.m T.LL.F.kp T.LL.b .nil Ay (oV aW aX))))) (BZ (own:=[("word",7,),("cost",8,)]) (xP Xv O_)) (pZ (tF 7 HS.nd 8)) cI (λ_ _ _ _ _=>(Bb (AqW T) eF rfl T.LN.m T.LN.F.kp T.LN.b .nil Ay (pS 7 8))))
  (Ak (mHc HS.nd OU)
  (Ak (rJ (mDT (pS 4 6)) (tF 7 HS.nd 10) (Ao (Cu (WT hu aAU aDB (Dc T.En.k (AqZ T) eF rfl T.En.m T.Nm.b .nil Ay (uC gJ (sN aDB fB))) aCV))))
  (Ak (oF (AoF rfl rfl T.Aky aAU))
  (Ak (oF (Dk rfl HS.nd (qC cC) (qD ("key",10,) Xv O_) (pE 10 HS.nd) cI (pZ (Lr hu aAU aDB gT))))
  (Ao (Cu (GY aL T.EN.c T.No.h (Ard T) eF T.No.b .nil Ay))))))))))),5)
 refine(0,L,2,(oM ac),λW ak=>?_);refine EA (J:=qJ L) st.length (λj H1=>∃ws:aP,fS /\H1 W=pF ws.map/\ws.length=j/\∀(i:Nat)(q:Addr),ws[i]? =dA ->Er t (HH W H1) q (yH i))
  ([],mP ak,88,9) (λj H1 hj (_,s1,_)=>(sO s1 ac hj)) (λH1 (_,s1,_)=>(rO s1 ac)) ?_ ?_
 .rintro j H1 y l hj ⟨ws,s1,al,am,an⟩ ⟨rfl,hy⟩;have o:=qW s1 ac;rw[ArY,cW] at o;obtain rfl:rX st[j]=y:=aAX;have ao:=Asw hj;refine jM;refine(0,λx ap hx aq ar=>(x,ap,mk st[j],190,by rw[Fo];exact ae.S8 _ ao,by rw[BT];have:=ae.le _ ao;omega,λas au av=>fW));have aw:Ab l as:=λc u e=>au c u (by rw[nZ hx,nZ aq];exact e) (AR e hx);have ax:x≠W:=λe=>(mLe e al);refine(_,mC aw al,fU,ws++[x],vO s1 aw ak,23,by simp[am],λi q hq=>?_);have sh:Ab (HH W as) (HH W (nE as W (nF ws.map++[cS]))):=λb u e=>by
   by_cases hb:b=W
   .rw[hb] at e;unfold HH at e;rw[bE] at e;cases e
   rw[VF hb] at e⊢;rw[hD];exact e
  by_cases v:i<ws.length
  .rw[Ask v] at hq;have ay:Ab (HH W l) (HH W as):=λb u e=>by
    by_cases hb:b=W
    .rw[hb] at e;unfold HH at e;rw[bE] at e;cases e
    rw[VF hb] at e⊢;exact mC aw e
   exact((an i q hq).same ay).same sh
  have az:=(nS hq).1;rw[Asi,AsD] at az;obtain rfl:i=j:=aA;rw[eL,am,At9] at hq;obtain rfl:x=q:=(mR hq);rw[Fo] at av;have a0:yH i=Hb st[i]:=(by unfold Wk DG;rw[Asv,cW];rfl);rw[a0];refine(av.same (Aly (D:=W) ?_ ax)).same sh;rw[nQ ax,Ah (λe=>by rw[<-e,al] at aq;cases aq),al];simp
 rintro H1 ⟨ws,s1,al,am,an⟩;have a3:mLf H1:=λi q e=>(an i q e).same Alx;refine(40,mp,W,m,Aq,ws,Wk st,2,hm.same s1,ab,al,a3,4,λms l s2 a4 a5 a6=>?_);rw[am] at a5 a6;have a7:=lS;have a8:=mC a7 hp;refine(97,a8,171,bB,8,97,Af,59,T.AcB,189);rw[B1];show yG l aJx;have a9:Fr eX l (nN l aJx):=aOG;have ba:mED l aJx:=Af;generalize Aa l p aJx=bb at a9 ba;have bc:mLf bb:=λi q e=>((a3 i q e).same s2).fr a9 (λc e=> mQj a8);have bd:=mV a9 (mC a7 ac) (λe=>by rw[e,hp] at ac;cases ac);have be:=a9 _ _ (qA al) (λe=>by rw[e,hp] at ak;cases ak);refine(16,17,ba,171,2,L,st,ms,2,bd,af,ae.le,4,λA7 C bf s5 bg bh bi=>?_);have bj:=vQ be;refine(W,C,3,mN bj,mN bh,λbk bl=>?_);have bm:tO aAO.map A7 st.length:=(pW ArX As4);have bn:mLf bf:=λi q e=>(bc i q e).same s5;refine EA (J:=Lw K W C) st.length (λj B=>∃rs:aP,Ab bf B/\B bk=pF rs.map/\rs.length=j/\∀(i:Nat)(r:Addr),rs[i]? =mB r->Hl B r (yH i) (A7 i))
  ([],mP bl,88,9) (λj B hj (_,G,_)=>(48,nD G bj,nD G bh,mCI am,mCI bm)) (λB (_,G,_)=>(19,nD G bj,nD G bh,mH (mCr am aF))) ?_ ?_
 .rintro j B y bo hj ⟨rs,G,bp,bq,br⟩ ⟨I,x,bs,rfl,bt,rfl,hx,hy⟩;have bu:mGl j:=aA;have hx':=xV hx G bj;rw[ArY,mJ bu] at hx';obtain rfl:nC ws[j]=x:=(mR hx');have o:=qW G bh;rw[ArY,ArY,AsY hj] at o;obtain rfl:uH mQ A7 j=bs:=aAX;have bv:Ab B (Aa B I aO5):=mP bt;have bw:mCD B I aO5:=Af;generalize Aa B I aO5=bo at bv bw;have bx:=mX G bv;refine(mDO I bw GG);refine(16,ws[j],gK,A7 j,2,(wX bn j bu).same bx,λR bz b0 b1 b2=>?_);have b3:=nP b0 bv bp;have kp:∀b xs,bz b=fL ->(nE bz bk (nF rs.map++[mF R])) b=some iY:=λb xs e=>(mC0 mKG b3 e);refine(_,b3,fU,rs++[R],vO bx b0 bl,23,by simp[bq],λi r d=>?_);by_cases v:i<rs.length
  .rw[Ask v] at d;exact((br i r d).same (mX bv b0)).keep kp
  have az:=(nS d).1;rw[Asi,AsD] at az;obtain rfl:i=j:=aA;rw[eL,bq,At9] at d;obtain rfl:R=r:=(mR d);exact b2.keep kp
 rintro B ⟨rs,G,bp,bq,br⟩;refine λN b4=>?_;have b5:Ab B aFE:=mP b4;have b6:wW B N iD:=Af;have bx:=mX G b5;have b7:EE t aFE N st A7 0 [] [] (λ_=>(134,60)):=(88,Auw,Auw,aF,λi q e=>by simp at e,λi a e=>by simp at e,λk h=>by omega,9);have b8:=mC bx bj;have b9:=mC b5 bp;have ca:mQx aFE:=λi r e=>(br i r e).same b5;have cb:∀(i:Nat)(q:Addr),ws[i]? =dA ->Er t aFE q (yH i):=λi q e=>(bn i q e).same bx;have cc:=nP bx s5 ba;have cd:Fr eX l aFE:=(a9.same s5).same bx;have ce:nA l N:=by
  cases q:l N with
  |none=>rfl
  |some u=>
   have:=((a9.same s5).same G) _ _ q (λe=>by rw[e] at b4;rw[nP G s5 ba] at b4;cases b4);rw[b4] at this;cases this
 have cf:N≠p:=λe=>(by rw[e,a8] at ce;cases ce);generalize Aa B N iD=bo at b5 b6 bx b7 b8 b9 ca cb cc cd;have cg:W≠N:=λe=>(by rw[e,b6] at b8;cases b8);have ch:bk≠N:=λe=>(by rw[e,b6] at b9;cases b9);refine(16,W,bk,3,mN b8,mN b9,5);refine Fn (J:=Lw K W bk) st.length (λj σ O=>∃(cj v10:bO)(U:jQ)(Y:aP)(R:aJu),σ=[bP,mG mp,mG L,xY mW,mG W,none,mG bk,cj,none,mG N,v10]/\yE N bo O/\EE t O N st A7 j U Y R/\p∉Y/\∀q∈Y,l q=none)
  (14,[],[],0,Fr.refl,b7,9,9) ?_ ?_ ?_ ?_
 .rintro j σ O hj ⟨cj,v10,U,Y,R,rfl,fr,kn,_⟩;exact(48,200,mCI am,mCI bq)
 .rintro σ O ⟨cj,v10,U,Y,R,rfl,fr,kn,_⟩;exact(19,200,mH (mCr am aF))
 .rintro j σ O y bz hj ⟨cj,v10,U,Y,R,rfl,fr,kn,ck,cl⟩ ⟨I,x,bs,rfl,bt,rfl,hx,hy⟩;have bu:mGl j:=aA;have cm:aO6:=aA;have hx':=hx _ (uI b8 cg);rw[ArY,mJ bu] at hx';obtain rfl:nC ws[j]=x:=(mR hx');have o:=hy _ (uI b9 ch);rw[ArY,mJ cm] at o;obtain rfl:nC rs[j]=bs:=aAX;have tupK:∀{b:Addr}{xs:aK},bo b=fL ->b≠N:=λh e=>(by rw[e,b6] at h;cases h);obtain⟨ap,cn,co,cp,cq,cr,cs,ct⟩:=(wX cb j bu).frD fr (λc e=>([],by rw[show c=N from e];exact b6));have bv:Ab O (Aa O I aO7):=mP bt;have bw:mEo O I aO7:=Af;have cu:=fr.same bv;have cx:=kn.same bv;have cy:=((wX ca j cm).keep (λb xs e=>fr _ _ e (tupK e))).same bv;have cz:=mC bv cq;have c0:=bv;generalize Aa O I aO7=bz at bv c0 bw cu cx cy cz;refine(mGk I bw);obtain⟨c1,kb,c2,c3,c4⟩:=id cy;refine(0,N,2,mI (_,mH cx.kn),16,16,rs[j],36,nO c2,On (x:= uH mE A7 j) aC rfl,λx c5 hx c6 ar=>?_);have c7:x≠ws[j]:=λe=>(mLe e cz);refine(x,c5,ws[j],ap,cn,gK.vf,A7 j,190,c7,by rw[nQ c7,Ah (λe=>by rw[e,c6] at cz;cases cz)];exact cz,2,5);rw[B1];have c8:Ab bz aXW:=wR c6 hx;refine(_,mI (19,rs[j],mH (mC c8 cx.kn),201,2),5);by_cases hmem:(gK,A7 j,)∈U
  .obtain⟨i,v,e⟩:=Asy hmem;obtain⟨c9,da⟩:∃q,Y[i]? =some q:=(mCW (show i<Y.length by rw[kn.len];exact v));rw[mQy (mBo v e) da];exact mH (0,19,U,Y,R,2,cu.same c8,(cx.same c8).BM hmem,ck,cl)
  rw[aXX];have db:(Fd U Y).length<=64:=(by unfold Fd;rw[ArX,Aw4,kn.len];have:=kn.le;omega);refine mQd (19,rs[j],mC c8 cx.kn,201,aBI,2);rw[MJ _ aXX];have dc:x≠N:=λe=>(mLe e cx.kn);have dd:mPN bz N aXY:=λc u e hc=>(by rw[gW];exact mC c8 e);have de:∀c u,bz c=aM ->u≠ .dT (Fd U Y)->(aXY) c=some u:=λc u e hu=>mQu dd cx.kn;obtain⟨df,dg,dh,di⟩:=cs.same c0;obtain⟨dj,dk,dm,dn⟩:=ct.same c0;obtain⟨dp,dq⟩:=cx.new hj hmem hx dd Af (oN dc Af) (mEF (mC c0 cr)) (df,dg,mEF dh,mEF di) (dj,dk,mEF dm,mEF dn);refine(48,dp,2,(cu.same c8).Aa rfl,dq,λh=>?_,eH);rcases oS h with h|h
  .exact ck h
  .have dr:=mLg cu;rw[zZ h,hx] at dr;cases dr
  rcases oS hq with hq|hq
  .exact rD cl
  rw[zZ hq]
  cases hz:l x with
  |none=>rfl
  |some u=>
   have dr:=mLg cu;have ds:=mV cd hz (λe=>by rw[show x=p from e,dr] at hx;cases hx);have dt:=mV cu ds dc;rw[hx] at dt;cases dt
 rintro σ O ⟨cj,v10,U,Y,R,rfl,fr,kn,ck,cl⟩;have du:=mLg fr;refine(0,N,0,mH kn.kn,λSA dv=>?_);rw[mC AfX kn.len];have dw:Ab O (nE O SA (nF Y.map)):=mP dv;have dy:mAa O SA (nF Y.map):=Af;have dz:=kn.same dw;have d0:=mC dw du;have d1:=fr.same dw;generalize Aa O SA aO8=d2 at dw dy dz d0 d1;refine(mQz d0 T.RN aAM);show yG d2 aJy;have d3:SA≠p:=λe=>(by rw[e,du] at dv;cases dv);have d4:∀{H':Hp}{f:dO},EE t H' N st A7 st.length U Y R->(∃d5,H' p=pI t.Cp d5)->(∀c xs,O c=fL -> eJ=fL)->EE t aXZ N st A7 st.length U Y R:=λ{H'}{f}dq (d5,d6) d7=>by
  have ne:∀c u,eJ=aM ->(∀g,u≠ nB t.Cp g)->(aXZ) c=some u:=λc u e hu=>(mC0 Ah (λz=>by rw[z,d6] at e;exact hu _ aAm.symm) e);refine(mHv dq.kn,dq.len,dq.Ov,dq.Mt,dq.le,λi q e=>by rw[Ah (λz=>ck (vF z Asl e))];exact dq.GJ i q e,aO1,dq.ER,dq.Qj)
  obtain⟨a1,a2,co,cp,d8,⟨dj,dk,d9,ea⟩,⟨eb,ec,ed,ee⟩⟩:=dq.Ow i a e;obtain⟨_,_,ef,eg,eh,⟨ei,ej,ek,_⟩,⟨el,em,en,_⟩⟩:=kn.Ow i a e;have eo:=mC d7 eh;rw[d8] at eo;injection Ase eo with eo
  injection eo with ep eq
  injection eq with eq _
  injection ep with ep
  injection eq with eq
  subst ep eq;have er:co≠p:=λz=>by
   rw[z,du] at ek;injection Ase ek with _ _ ek
   injection ek with ek _
   injection ek with ek _
   exact nL ek bB
  have n1:cp≠p:=λz=>by
   rw[z,du] at en;injection Ase en with _ _ en
   injection en with en _
   injection en with en _
   exact nL en bB
  exact(a1,a2,co,cp,mHv d8,(dj,dk,by rw[Ah er];exact d9,mHv ea),(eb,ec,by rw[Ah n1];exact ed,mHv ee))
 have es:∀c xs,O c=fL ->(aFF) c=some iY:=λc xs e=>(by rw[mKG du];exact mC dw e);have et:wO d2 aJy:=Af;have eu:=d4 (f:=[("most",aJr,),("room",mE 256,),("sorts",mF SA,)]) dz (qU d0) (λc xs e=>mC dw e);have ev:oB aFF SA aO8:=(oN d3 dy);have ew:oB aFF bk (mAL rs.map):=(by rw[Ah (λe=>by rw[e,cc] at b9;cases b9)];exact mV d1 b9 ch);have tupK:∀{b:Addr}{xs:aK},bo b=fL ->b≠N/\b≠p:=λh=>((λe=>by rw[e,b6] at h;cases h),(λe=>by rw[e,cc] at h;cases h));have ex:mQx aFF:=λi r e=>(ca i r e).keep (λb xs z=>by rw[Ah (tupK z).2];exact d1 _ _ z (tupK z).1);have ey:Fr (uY N p) bo aFF:=(mHt d1.As).Aa dZ;generalize Aa d2 p aJy=ez at es et eu ev ew ex ey;refine(0,bk,2,(oM ew),λOA e0=>?_);refine EA (J:=qJ bk) st.length (λj e1=>Ab ez e1/\e1 OA=mGr (aB7.map λk=>aFG).map V.ref) (yB e0)
  (λj e1 hj cp=>(sO cp.1 ew (by omega:aO6))) (λe1 cp=>(rO cp.1 ew)) ?_ ?_
 .rintro j e1 y e2 hj ⟨e4,e5⟩ ⟨rfl,hy⟩;have cm:aO6:=aA;have o:=qW e4 ew;rw[ArY,mJ cm] at o;obtain rfl:nC rs[j]=y:=aAX;have e6:=eu.same e4;obtain⟨e7,e8⟩:=Mu (kn.ER j hj);have e9:pC Y[Ew U st A7 j]? (CT Y (Ew U st A7 j)):=(mEE (oD kn.len e7));refine jM;refine(16,N,0,.inr (19,rs[j],mH e6.kn,2,((wX ex j cm).same e4).ky,(mQy e8 e9).symm),_,e5,mA4 As4,qH e4 e0,5);rw[Af,Atl];simp
 rintro e1 ⟨e4,e5⟩;have fa:=mC e4 et;refine(mQz fa T.RO (qZ 3));have e6:=d4 (f:=Mv ms SA OA) (eu.same e4) (qU fa) (λc xs e=>mC e4 (es c xs e));have fb:wO e1 aO4:=Af;have fc:oB aO9 SA aO8:=(by rw[Ah d3];exact mC e4 ev);have fd:(aO9) OA=some (.Ac (aPa.map V.ref)):=(oN (λe=>by rw[e,et] at e0;cases e0) e5);have fe:Fr (uY N p) bo aO9:=(ey.same e4).Aa dZ;have ff:∀k,k<st.length->Y[mCM U]? =some aFG:=λk hk=>(mEE (mAp kn.len (Mu (kn.ER k hk)).1));have fg:U.length<=64:=(zP kn.le);refine(193,fb,2,p,dx,SA,OA,_,Y,aPa,R,2,fb,29,fc,fd,kn.Mt,by rw[ArX,As4];exact af,by rw[kn.len];exact fg,eH,ck,ag,e6.GJ,λH' fh fi=>?_)
 .obtain⟨x,hx,rfl⟩:=pA hq;exact Asl (ff x aI5)
 have fj:=kn.AfZ (oq:=aAO.map λk=>aFG) rfl;have fk:∀{H':Hp}{c:Addr}{u:HO},(∀(i:Nat)(q:Addr),Y[i]? =dA ->H' q=mCK i 0)-> eJ=aM ->(∀i,u≠ mLc i 0)->c∉Y:=λhs hc hu hm=>by obtain⟨i,v,e⟩:=Asy hm;have:=wX hs i v;rw[e,hc] at this;exact hu i (Ase this)
 have fl:∀(i:Nat)(q:Addr),Y[i]? =dA ->HN t H' q (mAb U) i:=λi q hq=>by
  have fm:i<U.length:=(wM kn.len hq);obtain⟨M,fn,fo⟩:=fi i q hq;obtain⟨a1,a2,co,cp,d8,⟨dj,dk,d9,ea⟩,⟨eb,ec,ed,ee⟩⟩:=e6.Ow i U[i] (mJ fm);have fp:=Oy (st:=st) (A7:=A7) (mJ fm);have fq:=mQA d9;have fs:=mQA ed;refine(jR.dx,jR.sh,co,cp,M,5,mEG d8,5,5,λx=>?_)
  .rw[fn,fp];show mB (mC HO.Ag (GI jR M))=some (HO.Ag _ _ [("vowel_first",mE (U[i].1.vf:Int),),("shapes",mF jR.sh,),("cost",mE (U[i].2:Int),),("words",aIH,)]);rw[<-a1,<-a2]
  .rw[fp];exact(dj,dk,fq,mEG ea)
  .rw[fp];exact(eb,ec,fs,mEG ee)
  rw[fo x,fj i aA,fj (i+1) fm];exact Iff.rfl
 refine k ms A7 (mAb U) (Ew U st A7) SA OA H' (λc u e ft=>?_) (mV fh fb ck,(Y,mEG fc,by rw[Ox];exact kn.len,fl),(_,mEG fd,by rw[ArX,As4],λk q hq=>?_),kn.Arf,bi,a4,a5,a6,by rw[Ox];exact fg,5,λi v=>?_)
 .have fu:=mV cd (mC a7 e) ft;have fv:c≠N:=λz=>(by have:=mC a7 e;rw[z,ce] at this;cases this);have e3:=fe _ _ fu (by rintro(z|z);exact fv z;exact ft z);exact fh _ _ e3 (λhm=>by have ds:=cl c hm;rw[mC a7 e] at ds;cases ds)
 .rw[ArY] at hq;have hk:mAY k:=by
   rcases Atq k st.length with h|h
   .exact h
   rw[As9 fE] at hq;cases hq
  rw[AsY hk] at hq;obtain rfl:aFG=q:=(mR hq);exact mC fl (ff k hk)
 .rw[Ox,<-fj U.length aF];have:=Xs kn.Mt aPa U.length (oD kn.len aF);rw[ArX,As4] at this;omega
 rw[Ox] at v;rw[Oy (mJ v)];obtain⟨k,hk,e⟩:=kn.Qj U[i] (Asw v);exact(k,hk,by rw[e])
theorem Agf:∀(l:aB)(n:Nat),(∀i∈l,i<n)->pJ aX3=l.length
 |[],n,_=>by
  induction n with
  |zero=>rfl
  |succ n b=>show pJ _+0=0;rw[Nat.add_zero];exact b aC
 |a::l,n,h=>by
  have e:(λi=>(a::l).count i)=DS aX3 a:=by funext i;unfold DS;grind
  rw[e,Xd hR,Agf l n λi c=>pH h i c];rfl
theorem Agg(r:aB)(so:bD)(k:Nat):(λi=>(eI.map so).count i)=DS (mHw so) (so k):=by funext i;unfold DS;grind
theorem Xy:∀(a b:aB),AM (a++b)=AM a+AM b
 |[],b=>by show AM b=0+AM b;omega
 |x::a,b=>by rw[At8,C7,C7,Xy a b];omega
theorem Agh(h:∀k,f k=0):∀(l:aB),AM (sD f)=0
 |[]=>rfl
 |x::l=>by rw[Asn,C7,Agh h l,h]
theorem Xz{r:aB}(hd:r.Nodup)(a:aE4):mCj N:=by have:=Oj (m:=kO) hd λx hx=>mCS (oY a);rwa[As4] at this
theorem Agi(h:aJs)(hd:r.Nodup)(a:lT)(b:r≠[])(c:mCj ms):aB1.length<=255↔AM aFJ <=256:=by
 have hlen:aB1.length+1=AM (uF aDE):=AeA st r b;rcases h with h|⟨d,e⟩
 .have:aFJ=r.map aDE:=AsU λk hk=>h k (a k hk);rw[this];omega
 have:=e r hd a c;rw[Agh d];omega
theorem Agj(F_:m.Ok)(Fx:hN)(a:aIt)(c:aJs)(eT:E.T=aJ)(d:E.S=S)(eM:E.Aq=ms){r t:aB}(hd:aE6.Nodup)(f:aVF)(g:r≠[])(j:aE6.length<=ms)(l:(t.length:Int)<=rest)
 (h:Lk S (SZ E (aJA).1 (aJA).2 (zS aJ 1).1 (zS aJ 1).2) (mHw so) rest (256 - ((AM aFJ:Nat):Int))):
 Kgz2.scansRow aDQ gU aE6=false:=by
 cases hs:mLj m gU aE6 with
 |false=>rfl
 |true=>
  exfalso;obtain⟨n,o⟩:=(WK F_ Fx _ f).mp hs;have p:aNM:=λk hk=>f k (rV hk);have q:=(mQB t f).mp o;have Av:∀b∈ aAP,DR b:=λb hb=>by obtain⟨k,hk,rfl⟩:=pA hb;exact KI Fx (p k hk)
  have s:=PB Av;have u:AM aFJ+AM (t.map A7)<=256:=by have:=(Agi c hd f (by simp[g]) j).mp n;rwa[As7,Xy] at this
  obtain⟨i,v⟩:=h aNN (λi v=>by
   obtain⟨k,hk,rfl⟩:=pA v;rw[d];exact a.lt k (p k hk),by rw[ArX,eM];exact(by rw[Asi] at j;omega),by
   rw[d,Aok a t p,eT];refine fW;rcases(by omega:Cb aAP=0\/Cb aAP=1) with e|e
   .rw[e] at q⊢;exact q
   rw[e] at q⊢;exact q) (oD ArX l) (by rw[AeE a t p];omega)
  have:=AeF a hd f i;grind
theorem Ary(F_:m.Ok)(Fx:hN)(a:aJs)(eT:E.T=aJ)(hd:r.Nodup)(b:lT)(c:r≠[])(d:mCj ms)
 (h:SZ E (aJA).1 (aJA).2 e P1 []) (f:(0:Int)<=256 - ((AM aFJ:Nat):Int)):mLj m gU r=true:=by
 refine(WK F_ Fx _ b).mpr ((Agi a hd b c d).mpr aA,5);have g:=h.2.2.2;rw[eT] at g;have:=(mQB [] (mR b)).mpr g;simpa using this
structure Rf where
 X:Fw
 p:Addr
 m:Bi
 st:List aB
 Aq:Nat
 ms:Nat
 A7:Nat->Nat
 so:Nat->Nat
 dx:Addr
 SP:Addr
 dS:Addr
 OA:Addr
abbrev IY(SP P F:Addr):List gG:=[("stock",mF SP,),("places",mF P,),("finisher",mF F,)]
structure Gd(t:Aw)(Z:Rf):Prop where
 fw:DT t Z.X
 eT:Z.X.E.T=Aj Z.m
 eM:Z.X.E.Aq=Z.ms
 F_:Z.m.Ok
 Fx:FZ Z.st
 sl:Z.st.length<=64
 m12:Z.Aq<=12
 at_:Z.X.Hs Z.p=some (.Ag t.CB Z.dx (IY Z.SP Z.X.P Z.X.F))
 Di:Qk t Z.X.Hs Z.SP Z.dS Z.m Z.st Z.Aq Z.ms Z.A7 Z.X.E.S Z.so Z.X.SA Z.OA
abbrev EV(a:Addr)(used:Nat)(sa:Addr)(room:Int)(up:Nat):List gG:=[("row",aI,),("used",tJ mE,),("states",aAJ,),("room",aDw,),("upcoming",mE (up:Int),)]
def Ex(Z:Rf)(r:aB):Int:=256 - ((AM (uF Z.A7):Nat):Int)
structure GK(t:Aw)(Z:Rf)(H:Hp)(b:Addr)(r:aB)(up dB rA sa a0 a1 used:Nat):Prop where
 at_:H b=some (mLk dB rA up)
 row:H rA=some (pT r)
 IZ:H sa=some (wT a0 a1)
 c0:Cz H a0 (mBf 0).1 (mBf 0).2
 c1:Cz H a1 (mBf 1).1 (mBf 1).2
 Jx:Dl Z.X.E.S used (mHw Z.so)
structure Rw(Z:Rf)(r:aB):Prop where
 nd:r.Nodup
 lt:∀k∈r,k<Z.st.length
def Agl(t:Aw)(Z:Rf)(H H':Hp)(b:Addr)(r:aB):Prop:=∃a c sa a0 a1 used,GK t Z H' b r 0 a c sa a0 a1 used/\H b=none/\H c=none/\H sa=none/\H a0=none/\H a1=none
theorem GK.same(h:mLl up)(s:aO):GK t Z H' b r up g i sa a0 a1 used:=(nH h.at_,nH h.row,nH h.IZ,nH h.c0,nH h.c1,h.Jx)
def Arz(t:Aw):Sp:=λvs H Q _=>∃(p dx a sa:Addr)(used:Nat)(room:Int),vs=[aS,aI,tJ mE,aAJ,aDw]/\H p=rM t.Dd/\sP (qV (nB t.Dd (EV a used sa room 0)))
theorem Ar0:AD aHu aHu (A0 AaA):=aG
theorem Agm(T:aD):A4 P w K mg base A9 1 t.LO t.Acd aHu (Arz t):=by
 refine qI T.LO.F.ok Ar0
 .obtain⟨p,dx,c,sa,used,room,rfl,_⟩:=h;rfl
 obtain⟨p,dx,c,sa,used,room,rfl,hp,k⟩:=h;refine(_,(Ak aAG
  (Ak lQ
  (Ak (oF bF)
  (Ak (oF bI)
  aEU)))),5)
 refine(69,74,T.NF,52,74,T.Pm,189);rw[B1];refine(mAW T.CW.c T.RP 2);rw[B1];refine(mAW T.CW.c T.RQ 3);rw[B1];refine(yC T.CW.c T.Pn 4);rw[B1];exact k
theorem Ar1(ok:iO)(hk:mHx k):∃(oq:aP)(q:Addr),Z.X.Hs Z.OA=pF oq.map/\oq.length=Z.st.length/\oq[k]? =dA /\HN t Z.X.Hs q Z.X.E.S aCc:=by obtain⟨oq,a,b,c⟩:=ok.Di.of;have d:k<oq.length:=aA;exact(oq,oq[k],a,b,mJ d,wX c k d)
def Ar2(t:Aw):Sp:=λvs H Q _=>∃(Z:Rf)(b:Addr)(r:aB)(k up a c sa a0 a1 used:Nat),vs=aX4 /\ iO /\Ab Z.X.Hs H/\ aPc /\Rw Z eI /\
 ∀d H',aO -> aX5 ->sQ d
theorem Qm:AD ["self","beginning","number","sort","state","states","used"] aBG (A0 AaF):=aG
theorem Agn(T:aD):A4 P w K mg base A9 3 t.Kw t.Aci aBG (Ar2 t):=by
 refine T.Kw.F.ok Qm cM aU2
 .obtain⟨Z,b,r,k,up,c,ab,sa,a0,a1,used,rfl,_⟩:=h;rfl
 obtain⟨Z,b,r,k,up,c,ab,sa,a0,a1,used,rfl,ok,d,hb,f,ac⟩:=h;have g:mHx k:=f.lt k aC;obtain⟨oq,q,ae,af,ag,l,sh,ah,ai,M,hq,aj,ak,al,am⟩:=Ar1 ok g;have n:(AH Z.X.E.S aCc).wd=Wk Z.st k:=ok.Di.AH.wd k g;have o:=KI ok.Fx g;rw[n] at ak al;rw[n,(ok.Di.AH.Bl k g)] at hq;obtain⟨_,an,ao,dd,ff,ap,aq,_⟩:=id ok.fw.pl;have ar:=ok.fw.pl;rw[ok.eT] at ar;have as:∀x∈r,x<Z.st.length:=λx hx=>f.lt x aE5;have au:=Xz ((AsT.mp f.nd).1) as;have av:=ok.sl;have aw:aPd:=λm=>mLm r as;have ax:∀m,(jS.sh m).A2.length<=1000:=λm=>by have:=ok.fw.wl aCc m (ok.Di.AH.lt k g);rwa[n] at this
 obtain⟨p,ay,az⟩:∃p,BX [nC a0,nC a1] ((jS.vf:Nat):Int)=bP /\Cz H p (mBf jS.vf).1 (mBf jS.vf).2:=by
  have a2:=o.vf;rcases(by omega:jS.vf=0\/ jS.vf=1) with e|e
  .rw[e];exact(a0,cN,hb.c0)
  rw[e];exact(a1,dW,hb.c1)
 have a3:∀m,jS.sh m=if m=1 then jS.CO else jS.DF:=λm=>rfl
 have a4:=vU d;refine(_,(Ak (rL Qm.nd (qQ kQ aW))
  (Ak (qE Qm.nd (sN cJ dE))
  (Ak (sA Qm.nd (CV (mKj aYk)))
  (Ak (tG Qm.nd (AE J3 cJ (Bb (SN T) aNh rfl T.Fl.m T.Fl.F.kp T.Fl.b .nil Ay (mT (mCl dE cJ)))))
  (Ao (A3 (Dc T.CW.k (Agm T) aNh rfl T.CW.m T.LO.b .nil Ay (Ad (vN cJ (tZ aW)) (Ad cC (oV bQ (AE FI cJ dE))))))))))),5)
 refine(28,a4,31,mHy d,59,T.RO,30,Z.OA,36,nD d ae,AZ (v:= mF q) (yM ArY ag),5);refine(0,b,_,c,24,T.RP,30,172,mC d hq,47,T.Ph,2,sa,36,nO hb.IZ,ay,28,a4,208,mC d ap,aq.n3,16,172,mC d hq,151,36,qX d aj,cN,Z.X.P,p,ah,Aj Z.m,19,jS.sh 0,2,ar.same d,az,ak.same d,o.sh 0,ax 0,aw _,λu H1 s1 a5 a6=>?_);have y:=mX d s1;refine(28,qS a4,208,mC y ap,aq.n3,16,172,mC y hq,151,36,qX y aj,dW,Z.X.P,p,ai,Aj Z.m,19,jS.sh 1,2,ar.same y,qS az,al.same y,o.sh 1,ax 1,aw _,λz B s2 a7 a8=>(gL,λC a9=>?_));have ba:=lS;have D:Ab B (Aa B C (wT u z)):=mP a9;have bb:wW B C (wT u z):=Af;generalize Aa B C (wT u z)=G at D bb;have I:=mX ba D;refine(0,b,_,182,172,mC (mX d I) hq,47,T.RM,84,182,M,used,29,0,13,0,b,_,c,3,aPe,74,T.NF,30,jP,λJ bc=>?_);have L:Ab G aFK:=mP bc;refine(ab,J,8,nP L I hb.row,Af,AL (mBH AsD),λN bd=>?_)
 have be:Ab aFK (Aa aFK N aPf):=mP bd;have O:=pR I L be;have bf:=mX d O;have bg:(Aa aFK N aPf) N=some (pT eI):=(pD Af);refine(40,b,_,c,3,mC O hb.at_,74,T.RQ,30,172,mC bf hq,47,T.RL,2,8,λU db bh bi bj=>(U,db,N,C,3,88,5));rw[B1];generalize Aa aFK N aPf=bk at be O bf bg bh bi;have Y:Ab bk (Aa (qL bk db U) U (.Ag t.Dd db (EV N aX6 C (Ex Z r - (Z.A7 k:Int)) 0))):=wR bi bh;have bl:=mX L be;have bm:=AeF ok.Di.AH f.nd f.lt aCc;have bn:(eI.map Z.so).count aCc=(uF Z.so).count aCc+1:=by have:=congrFun (Agg r Z.so k) aCc;unfold DS at this;rw[bE] at this;exact this
 refine ac U _ (mX O Y) (db,N,C,u,z,aX6,(5,qY bg,nP Y bl bb,51),BL O bh,BL (mX I L) bd,BL ba a9,a5,BL s1 a7)
 .rw[Af];have:Ex Z eI=Ex Z r - (Z.A7 k:Int):=by
   unfold Ex;rw[As7,Xy,Asn,AuX,C7];have:AM []=0:=rfl;omega
  rw[this]
 .rw[SB];exact qY (nP bl D (qA a6))
 .rw[SB];exact mCH bl D a8
 rw[Agg,Ae0 am hb.Jx,gZ];exact Ae1 hb.Jx aA
def Ar3(t:Aw):Sp:=λvs H Q _=>∃(Z:Rf)(b:Addr)(r:aB)(k up a c sa a0 a1 used:Nat),vs=aX4 /\ iO /\Ab Z.X.Hs H/\ aPc /\ aDF /\k<Z.st.length/\
 ∀(v:V)H',aO ->(((mGA Z.ms k)/\v= .Ax)\/(r.length<Z.ms/\vS k=false/\Rw Z eI /\∃d,v= dC /\ aX5))->oJ v
theorem Ar4:AD aBG aBG (A0 AaE):=aG
theorem Ar5(T:aD):A4 P w K mg base A9 4 t.Nt t.Ach aBG (Ar3 t):=by
 refine T.Nt.F.ok Ar4 cM aNZ
 .obtain⟨Z,b,r,k,up,g,i,sa,a0,a1,used,rfl,_⟩:=h;rfl
 obtain⟨Z,b,r,k,up,g,i,sa,a0,a1,used,rfl,ok,l,hb,m,hk,n⟩:=h;have o:=vU l;refine(_,(Ak (zE (PW.pt (Id (pB QN (uD qK 1) kQ) (JX (zF (rZ V6) aW cJ)))))
  (Ao (A3 (Bx aL T.Df.c T.Kw.h (Agn T) aEW T.Kw.b .nil Ay (pS 1 2))))),5)
 refine(0,139,28,o,31,mHy l,171,2,55);by_cases hge:(Z.ms:Int)<=(((iv r).length:Nat):Int)
 .rw[mU hge];rw[ArX] at hge;exact xU (n .Ax H fA (mH (mH aA,2)))
 rw[mS hge];rw[ArX] at hge;refine Az (16,139,2,by simp[Fh],0,5);rw[Af5]
 cases hc:vS k with
 |true=>exact Au (n .Ax H fA (mH (mI hc,2)))
 |false=>
  have p:k∉r:=by intro hm;have:nI vS k:=aGM;rw[hc] at this;cases this
  have q:Rw Z eI:=by
   refine(5,λj hj=>?_)
   .rw[AsT];exact(m.nd,9,λa ha c hc' e=>by rw[zZ hc'] at e;rw[e] at ha;exact p ha)
   rcases oS hj with hj|hj
   .exact m.lt j hj
   rw[zZ hj];exact hk
  refine Az (56,o,178,Z,b,r,k,up,g,i,140,2,ok,l,hb,q,λu H' v x=>?_);exact n (mF u) H' v (mI (4,hc,q,u,2,x))
def sc(Z:Rf)(x:aB):Bool:=mLj Z.m (Z.st.map C5) x
def Ar6(t:Aw):Sp:=λvs H Q _=>∃(Z:Rf)(o:Bj)(n:Nat)(a:bH)(b:Addr)(r:aB)(up c d sa a0 a1 used:Nat),vs=[mF Z.p,bW]/\ iO /\mCO H o a/\mQC b/\ aDF /\r≠[]/\r.length<=Z.ms/\
 ∀(y:Bool)n' o' H' e,mEw Z.X e->mEH Z.X.F a e->(y=false->∀x t',x=r++t'->Rw Z x->x.length<=Z.ms->sc Z x=false)->mAS y
theorem Gd.Ago(ok:iO):Z.ms<=12:=by have:=ok.Di.Ql;have:=ok.m12;omega
theorem Gd.Bv(ok:iO)(h:aDF):Bv (mHw Z.so) Z.X.E.S.length=r.length:=by
 rw[Agf _ _ λi g=>by obtain⟨k,hk,rfl⟩:=pA g;exact ok.Di.AH.lt k (h.lt k hk),ArX]
theorem Agp:AD (sM "beginning" "rest") aBH (A0 AaG):=aG
theorem Ar7(T:aD):A4 P w K mg base A9 55 t.Nu t.Acj aBH (Ar6 t):=by
 refine mGP T.Nu.F.ok Agp
 .obtain⟨Z,o,n,d,b,r,up,f,g,sa,a0,a1,used,rfl,_⟩:=h;rfl
 obtain⟨Z,o,n,d,b,r,up,f,g,sa,a0,a1,used,rfl,ok,fs,hb,j,k,hlen,l⟩:=h;have p:=fs.st;have q:=vU p;have u:=mHy p;have v:aPd:=λm=>mLm r j.lt;have z:=ok.Ago;have e:((Z.ms:Int) - (((iv r).length:Nat):Int))=((Z.ms - r.length:Nat):Int):=kI;refine(_,(Ak (pY Agp.nd (AE FI kQ (uD qK 1)))
  (mQD aW)),5)
 refine(28,q,31,u,171,84,f,24,T.NF,2,g,0,aPg,8,28,q,89,f,24,T.RP,178,b,_,f,24,T.Pm,84,f,121,a1,48,Z.ms - r.length,used,_,Ex Z r,by rw[<-e];rfl,118,v 0,v 1,hb.Jx,4,by rw[(ok.Bv j)];omega,183,λy n' o' H' B C g' D _=>?_);refine l y n' o' H' B C g' λhy x t' hx G I=>?_;subst hx;refine Agj ok.F_ ok.Fx ok.Di.AH ok.Di.Bl ok.eT rfl ok.eM G.nd G.lt k I ?_ (D hy);rw[Asi] at I;omega
def Ar8(t:Aw):Sp:=λvs H Q _=>∃(Z:Rf)(o:Bj)(n:Nat)(a:bH)(b:Addr)(r:aB)(up c d sa a0 a1 used:Nat),vs=[mF Z.p,bW]/\ iO /\mCO H o a/\mQC b/\ aDF /\r≠[]/\r.length<=Z.ms/\
 ∀n' o' H' e,mEw Z.X e->mEH Z.X.F a e->mAS (sc Z r)
theorem Ar9:AD aBH aBH (A0 AaH):=aG
theorem ArA(T:aD):A4 P w K mg base A9 55 t.Nv t.Ack aBH (Ar8 t):=by
 refine mGP T.Nv.F.ok Ar9
 .obtain⟨Z,o,n,d,b,r,up,e,f,sa,a0,a1,used,rfl,_⟩:=h;rfl
 obtain⟨Z,o,n,d,b,r,up,e,f,sa,a0,a1,used,rfl,ok,fs,hb,g,i,hlen,j⟩:=h;have k:=vU fs.st;have l:aPd:=λm=>mLm r g.lt;have p:=ok.Ago;refine(_,(mQD Ar),28,k,89,e,24,T.RP,84,e,24,T.Pm,84,e,121,a1,48,60,used,_,Ex Z r,2,118,l 0,l 1,hb.Jx,4,by rw[(ok.Bv g)];omega,183,λy n' o' H' q u g' v x=>?_);have hy:y=sc Z r:=by
  cases y with
  |true=>
   obtain⟨z,B⟩:=x rfl rfl;exact(Ary ok.F_ ok.Fx ok.Di.Bl ok.eT g.nd g.lt i hlen z B).symm
  |false=>
   have:=Agj (t:=[]) (rest:=((0:Nat):Int)) ok.F_ ok.Fx ok.Di.AH ok.Di.Bl ok.eT rfl ok.eM (mR g.nd) (mR g.lt) i (mR hlen) aC (v rfl);rw[Aum] at this;exact this.symm
 rw[hy];exact j n' o' H' q u g'
theorem AO.take(h:aFm)(i:fS)(hc:pP c)(j:H1 c=aM):mPc H1 kvs:=by
 have BM:aWl:=λb v e=>mCu hc;have ev:∀B,Ev B o H aFc H1:=λB=>(mPd i);refine(mPe i j)
 .have s:b≠c:=λz=>(mBz z j);rw[Cj s];exact h.un b (BL i e)
 .obtain⟨κ,a,e,ne,k⟩:=aAR;exact aWm
 obtain⟨_,dx,y,AA,g,C,I,k⟩:=aFd;have:=k.at_;rw[hc] at this;cases this
def I_(o:Bj)(H:Hp)(o':Bj)(H':Hp):Prop:=∀c u,H c=aM ->o c=none-> eJ=aM /\o' c=none
theorem I_.trans(a:I_ o H g H1)(b:I_ g H1 i j):I_ o H i j:=λc u e h=>let(q,s):=uX a h;b c u q s
theorem Gw.kp(g:aFh):I_ o H o' H':=λ_ _ e h=>g.free e h
theorem C6.kp{o:Bj}(m:zW kvs)(u:HO):I_ o H o (mEm c):=λb v e h=>(by rw[mP9 m.o];exact e,h)
def GL(t:Aw)(Z:Rf)(H:Hp)(o:Bj)(b:Addr)(r:aB)(up:Nat):Prop:=∃a c sa a0 a1 used,aPc /\o c=none/\o sa=none/\o a0=none/\o a1=none
theorem GK.kp(h:mLl up)(j:nA o i)(q:nA o sa)(s:nA o a0)(u:nA o a1)(k:I_ o H o' H')(hb:eN=some (mLk g i up')):GL t Z H' o' b r up':=
 (g,i,140,(hb,(mV k h.row j).1,(mV k h.IZ q).1,(mV k h.c0 s).1,(mV k h.c1 u).1,h.Jx),(mV k h.row j).2,(mV k h.IZ q).2,(mV k h.c0 s).2,(mV k h.c1 u).2)
theorem GL.gw(h:mHz up)(m:mEI H b)(g:aX7):GL t Z H' o' b r up:=by obtain⟨i,j,sa,a0,a1,used,h,q,s,u,v⟩:=h;exact h.kp q s u v g.kp (m.gw g h.at_).1
theorem GL.CA(h:mHz up)(m:mEI H c)(g:b≠c):GL t Z (mEm c) o b r up:=by obtain⟨i,j,sa,a0,a1,used,h,q,s,v,y⟩:=h;exact h.kp q s v y (m.kp u) (oN g h.at_)
structure Ey(t:Aw)(Z:Rf)(H:Hp)(o:Bj)(kvs:bH)(L:Addr)(bs:aP)(path:aAY):Prop where
 at_:H L=some (mAL bs.map)
 nd:bs.Nodup
 len:bs.length=path.length
 mL:C6 t Z.X H o kvs L
 el:∀(j:Nat)(b:Addr)(x:aCd),bs[j]? =mB b->path[j]? =aY ->mEI H b/\GL t Z H o b x.1 x.2
 Qn:∀x∈path,Rw Z x.1/\x.2<=Z.st.length
theorem JN(h:(l++[a])[j]? =aY):(j<l.length/\l[j]? =aY)\/(j=l.length/\x=a):=by grind
theorem Tl(l:cL)(a:α):(l++[a])[l.length]? =some a:=by simp
section
variable {Z:Rf} {H H':Hp} {o o':Bj} {kvs kvs':bH} {L:Addr} {bs:aP} {path:aAY}
theorem Ey.gw(h:mLn H)(g:aX7):Ey t Z H' o' kvs' L bs path:=by refine((h.mL.gw g h.at_).1,h.nd,h.len,(h.mL.gw g h.at_).2,λj b x hb hx=>?_,h.Qn);obtain⟨m,i⟩:=h.el j b x hb hx;obtain⟨_,_,_,_,_,_,q,_⟩:=id i;exact((m.gw g q.at_).2,i.gw m g)
theorem Ey.bL(h:mLn H)(hb:b∈bs):b≠L:=by
 obtain⟨j,hj,e⟩:=Asy hb;obtain⟨_,_,_,_,_,_,_,g,_⟩:=h.el j b _ aBL (mJ (uJ h.len hj));intro z;have:=g.at_;rw[z,h.at_] at this
 cases this
theorem Ey.push(h:mLn H)(hm:mEI H b)(hx:mHz 0)(g:aDF)(i:b∉bs)(q:b≠L):Ey t Z (nX L (mAL aPh.map)) o kvs L aPh (mEJ (r,0,)):=by
 refine(Af,5,by simp[h.len],h.mL.Aa,λj s x hb hx'=>?_,λx hx'=>?_)
 .rw[AsT];exact(h.nd,9,λa ha c hc e=>by rw[zZ hc] at e;rw[e] at ha;exact i ha)
 .rcases JN hb with⟨u,v⟩|⟨u,v⟩
  .rcases JN hx' with⟨y,h4⟩|⟨y,h4⟩
   .obtain⟨m,z⟩:=h.el j s x v h4;exact(m.Aa,z.CA h.mL (h.bL (Asl v)))
   have:=h.len;omega
  rcases JN hx' with⟨y,h4⟩|⟨y,h4⟩
  .have:=h.len;omega
  subst v h4;exact(hm.Aa,hx.CA h.mL q)
 rcases oS hx' with hx'|hx'
 .exact h.Qn x hx'
 grind
theorem Ey.pop(h:mLo aJB):Ey t Z (nE H L (nF bs.map)) o kvs L bs path:=by have g:aPi:=aPj;refine(Af,(AsT.mp h.nd).1,g,h.mL.Aa,λj i x hb hx=>?_,λx hx=>h.Qn x aE5);have hj:=(nS hb).1;obtain⟨m,q⟩:=h.el j i x (wG Ask hj hb) (wG Ask aA hx);exact(m.Aa,q.CA h.mL (h.bL (vD (Asl hb))))
theorem Ey.Ga(h:mLo (mEJ (r,u,))):mEI H b/\mHz u/\ aDF /\u<=Z.st.length:=by have g:aPi:=aPj;obtain⟨m,i⟩:=h.el bs.length b (r,u,) aJC (by rw[g];exact aJC);exact(m,i,h.Qn (r,u,) aC)
theorem Ey.X0(h:mLo (mEJ (r,u,)))(hu:u'<=Z.st.length)(hb:mLl u)(q:nA o i)(s:nA o sa)(v:nA o a0)(y:nA o a1):Ey t Z (nX b (mLk g i u')) o kvs L aPh (mEJ (r,u',)):=by
 have B:aPi:=aPj;obtain⟨C,_,aa,_⟩:=h.Ga;refine(by rw[nQ (h.bL (b:=b) aC)];exact h.at_,h.nd,by simp[B],h.mL.Aa,λj I x J hx=>?_,dY)
 .rcases JN J with⟨M,O⟩|⟨M,O⟩
  .rcases JN hx with⟨Q,h4⟩|⟨Q,h4⟩
   .obtain⟨m,U⟩:=h.el j I x (wG Ask M O) (wG Ask Q h4);have Y:I≠b:=λz=>(AsT.mp h.nd).2.2 I (Asl O) b aC z;exact(m.Aa,U.CA C Y)
   omega
  rcases JN hx with⟨Q,h4⟩|⟨Q,h4⟩
  .omega
  subst O h4;exact(C.Aa,hb.kp q s v y (C.kp _) Af)
 rcases oS hx with hx|hx
 .exact h.Qn x aE5
 grind
end
theorem Agq:∀(a pre:aB),∃L,aIr=L++[(pre++a,0,)]/\∀k,Dr pre (a++[k])=L++[(pre++a,k+1,)]++[(pre++(a++[k]),0,)]
 |[],pre=>([],by simp[Dr],λk=>by simp[Dr])
 |x::a,pre=>by
  obtain⟨L,b,c⟩:=Agq a aPk;refine((pre,x+1,)::L,5,λk=>?_)
  .show(pre,x+1,)::Dr aPk a=_;rw[b];simp
  show(pre,x+1,)::Dr aPk (a++[k])=_;rw[c k];simp
def ArC(t:Aw):Sp:=λvs H Q _=>∃(Z:Rf)(o:Bj)(n:Nat)(b:bH)(a:Addr)(c:aB),vs=[mF Z.p,aI]/\ iO /\mCO H o b/\H a=nW c/\o a=none/\Rw Z c/\
 ∀(L:Addr)(bs:aP)o' H',mCO H' o' b->I_ o H o' H'->Ey t Z H' o' b L bs (Dr [] c)->sQ L
theorem Oz:AD ["self","after","state","beginning","path","number"] aCS (A0 AaD):=aG
theorem ArD(T:aD):A4 P w K mg base A9 4 t.Nr t.Acg aCS (ArC t):=by
 refine oW T.Nr.F.ok Oz
 .obtain⟨Z,o,n,ac,a,g,rfl,_⟩:=h;rfl
 obtain⟨Z,o,n,ac,a,g,rfl,ok,fs,ha,oa,l,ae⟩:=h;have af:=fs.st;have ag:=vU af;have ah:=ok.fw.pl;rw[ok.eT] at ah;obtain⟨_,ai,aj,dd,ff,ak,al,_⟩:=ah;obtain⟨am,an,ao⟩:=T.LZ;refine(_,(Ak (pY Oz.nd (mCe aML kQ))
  (Ak (rL Oz.nd (Dc T.CW.k (Agm T) bR rfl T.CW.m T.LO.b .nil Ay (Ad eU (Ad Ar (uC (CV (uV aW)) kQ)))))
  (Ak (qE Oz.nd (tZ bF))
  (Ak (BS Asq rfl aEH (oC 5 Oz.nd) (Ak (AX bF (vK bQ) rfl)
  (Ak (rL Oz.nd (Bx aL T.Df.c T.Kw.h (Agn T) bR T.Kw.b .nil Ay (pS 3 5)))
  (mB4 (mJg bI bF)))))
  (oL bI))))),5)
 refine(28,ag,67,Z.X.P,_,ai,aj,0,mC af ak,35,T.Ac9,al.first,gL,λs0 ap=>?_);have aq:Ab H (nX s0 aPl):=mP ap;have c1:Cz (nX s0 aPl) s0 4 (Aj Z.m).first:=Af;generalize Aa H s0 aPl=H1 at aq c1;refine((mAC 0),λm ar=>(16,gL,λsa as=>?_));have au:Ab H1 aFL:=mP ar;have av:Ab aFL (Aa aFL sa aPm):=mP as;have aw:mEo aFL sa aPm:=Af;have ax:=mX au av;have p:=mX aq ax;refine(28,mC p ag,31,nP p af ok.Di.at_,59,T.AcB,2,λb db hb ay az=>(b,db,m,sa,60,(256),2,88,5));rw[B1];have cr:=mC av Af;have a0:=mC ax c1;generalize Aa aFL sa aPm=a1 at av aw ax p hb ay cr a0;have q:Ab a1 (Aa aPn b aJD):=wR ay hb;have r:(Aa aPn b aJD) b=some aJD:=Af;generalize Aa aPn b aJD=a2 at q r;refine(0,jP,λL a3=>?_);obtain⟨a4,a5,a6⟩:=fs.take (mX p q) (BL p hb) r;obtain⟨a7,a8,a9⟩:=a4.claim (u:= .Ac [bW]) a3;have v:GK t Z a2 b [] 0 db m sa s0 s0 0:=(r,mC q cr,mC q aw,mC q a0,mC q a0,S6 _);have nb:mLp a2 b:=λc u e hu z=>(mLq r)
 have ba:GL t Z a2 (mCP o b) b [] 0:=(db,m,sa,s0,s0,60,v,by rw[uZ nb v.row];exact wV (BL aq ar),by rw[uZ nb v.IZ];exact wV (BL (mX aq au) as),103,103)
 have bb:Ey t Z (nE a2 L [bW]) (mCP (mCP o b) L) ac L ([]++[b]) ([]++[([],0,)]):=by
  refine(Af,9,2,a8,λj B x bc bd=>?_,dY)
  .rcases JN bc with⟨z,_⟩|⟨_,rfl⟩
   .simp at z
   rcases JN bd with⟨z,_⟩|⟨_,rfl⟩
   .simp at z
   exact((a5.gw a9 r).2,ba.gw a5 a9)
  obtain rfl:x=([],0,):=(mR hx);exact((Auw,9),aR)
 have be:=(a6.trans a9).kp;refine(mKW a (oM (mV be ha oa).1));refine E4 (K:=K) (a:=a) (xs:=iv g) (λj σ C=>∃(D:Bj)(G:aP)(I:Addr)(J:aAY)(bf:bO),σ=[mG Z.p,mG a,mG s0,mG I,mG L,bf]/\mCO C D ac/\I_ o H D C/\Ey t Z C D ac L (G++[I]) (J++[(lZ,0,)])/\Dr [] lZ=J++[(lZ,0,)])
  (_,[],b,[],58,2,a7,be,bb,2) (λj σ C _ (_,_,_,_,_,_,_,M,_)=>mN (mV M ha oa).1) ?_ ?_
 .rintro j y σ C hj ⟨D,G,I,J,bf,rfl,bg,M,N,O⟩;rw[ArY] at hj;obtain⟨k,bh,rfl⟩:∃k,g[j]? =mB k/\y= .int ((k:Nat):Int):=by
   cases e:g[j]? with
   |none=>rw[e] at hj;cases hj
   |some x=>rw[e] at hj;exact lU
  have bi:mHx k:=l.lt k (Asl bh);have bj:mAV g.take k:=(yM AsA bh);have bk:Rw Z (lZ++[k]):=by rw[<-bj];exact(l.nd.sublist aRF,λx hx=>l.lt x (Av2 hx))
  obtain⟨bl,⟨bm,bo,sB,bp,bq,br,bs,bt,bu,bv,bw⟩,_,_⟩:=N.Ga;refine(0,8,0,I,_,bm,0,bs.at_,74,T.Pn,aDc,5);rw[show Cn "upcoming" (mQ ((k:Int)+1)) (EV bo br sB (Ex Z lZ) 0)=aX8 from rfl];have U:=N.X0 (u':=k+1) aA bs bt bu bv bw;have Y:=bg.CA bl aPo;have bx:=M.trans (bl.kp aPo);generalize Aa C I aPo=bz at U Y bx;obtain⟨b0,⟨b1,b2,b3,f0,f1,b4,b5,b6,b7,b8,b9⟩,_,_⟩:=U.Ga;refine(56,vU Y.st,178,Z,I,lZ,k,k+1,b1,b2,b3,f0,f1,b4,2,ok,Y.st,b5,bk,λB H' ca (cb,rN,cc,cd,g1,ce,bn,cf,cg,ch,cj,ck)=>?_);obtain⟨f2,cl,g2⟩:=Y.take ca cf bn.at_;have cm:=U.gw g2;have cn:mLp H' B:=λc u e hu z=>(mLq bn.at_);have co:GL t Z H' (mCP D B) B (lZ++[k]) 0:=(cb,rN,cc,cd,g1,ce,bn,by rw[uZ cn bn.row];exact Y.un _ cg,by rw[uZ cn bn.IZ];exact Y.un _ ch,by rw[uZ cn bn.c0];exact Y.un _ cj,by rw[uZ cn bn.c1];exact Y.un _ ck)
  have cp:B∉G++[I]:=λhm=>by obtain⟨i,cq,e⟩:=Asy hm;obtain⟨_,_,_,_,_,_,_,cs,_⟩:=U.el i B _ (mBo cq e) (mJ (uJ U.len cq));have:=cs.at_;rw[cf] at this;cases this
  have hlen:(G++[I]).length<=65:=by rw[U.len];have:=yJ O;rw[Age,Asi,AsD] at this;have ct:=Xz l.nd l.lt;have:=ok.sl;rw[Asi,AsD];have:=List.length_take_le j g;rw[AsS] at*;omega
  refine(mK0 cm.at_ L);have cu:mQE G I B:=aC;rw[cu];obtain⟨cx,cy,cz⟩:=Agq lZ [];simp only[List.nil_append] at cy cz;have c0:J=cx:=by have:=O.symm.trans cy;exact(List.append_inj' this rfl).1
  refine(_,G++[I],B,J++[(lZ,k+1,)],0,f2.CA cm.mL _,(bx.trans g2.kp).trans (cm.mL.kp _),5,5)
  .rw[bj];exact cm.push cl co bk cp (λz=>by have:=U.at_;rw[<-z,cf] at this;cases this)
  rw[bj,cz k,c0]
 rintro σ C ⟨D,G,I,J,bf,rfl,bg,M,N,O⟩;rw[ArX,AsC] at N O;rw[<-O] at N;exact(0,ae L _ D C bg M N)
theorem Agr:∀(a pre:aB)(j:Nat)(x:aCd),aIr[j]? =aY ->x.1.length=pre.length+j
 |[],pre,0,x,h=>by
  obtain rfl:(pre,0,)=x:=aPp;rfl
 |[],pre,j+1,x,h=>by simp[Dr] at h
 |k::a,pre,0,x,h=>by
  obtain rfl:(pre,k+1,)=x:=aPp;rfl
 |k::a,pre,j+1,x,h=>by
  have:=Agr a aIp j x aPp;rw[Asi,AsD] at this;omega
def KU(Z:Rf)(a:aB):Option aB:=(mHA BK aE2).find? (sc Z)
def ArE(t:Aw):Sp:=λvs H Q _=>∃(Z:Rf)(o:Bj)(n:Nat)(b:bH)(a:Addr)(d:aB),vs=[mF Z.p,aI]/\ iO /\mCO H o b/\H a=nW d/\o a=none/\Rw Z d/\
 ∀(D:Addr)(H':Hp),(∀c u,H c=aM ->o c=none-> eJ=aM)-> dQ=nW (mLr d)-> eS
def Ja(path:aAY):Prop:=∀(j:Nat)(x:aCd),path[j]? =aY ->x.1.length=j
def Wfb(t:Aw)(Z:Rf)(o:Bj)(H:Hp)(a L:Addr)(b:aB)(c:Nat)(σ:St)(d:Hp):Prop:=∃(path:aAY)(bs:aP)(e:Bj)(f:Nat)(g:bH)(h v4:bO),c=mHA Gc path/\σ=[mG Z.p,mG a,mG L,h,v4]/\AO t Z.X d e f g/\I_ o H e d/\Ey t Z d e g L bs path/\Ja path/\(mHA BK path).find? (sc Z)=KU Z b
theorem Ja.pre{path:aAY}{x:aCd}(h:Ja aJB):Ja path:=λj y e=>h j y (mQc e)
theorem Ja.Ga{path:aAY}{x:aCd}(h:Ja aJB):aX9:=mC h aJC
theorem Ja.snoc{path:aAY}{x:aCd}(h:Ja path)(e:aX9):Ja aJB:=λj y hy=>by
 rcases JN hy with⟨_,g⟩|⟨i,g⟩
 .exact h j y g
 rw[g,i];exact e
theorem Tm:AD ["self","after","path","beginning","longer"] aCS (A0 AaC):=aG
theorem ArF(T:aD):A4 P w K mg base A9 56 t.Nq t.Acf aCS (ArE t):=by
 refine oW T.Nq.F.ok Tm
 .obtain⟨Z,o,n,ac,a,g,rfl,_⟩:=h;rfl
 obtain⟨Z,o,n,ac,a,g,rfl,ok,fs,ha,oa,ae,af⟩:=h;refine(_,(Ak (pY Tm.nd (Bx aL T.Df.c T.Nr.h (ArD T) bR T.Nr.b .nil Ay dU))
  (Ak (Ka Asq (qR aW) (Ak (rL Tm.nd (qQ aW fB))
  (Ak (AU (uS dE (mGj (rZ C4) (mT kQ))) (Ak (Cu (AeV (K:=K) rfl As3 F.slot_list_pop F.type_list_pop AiG aW))
  (Ao Yo)) AY)
  (Ak (qE Tm.nd (Bx aL T.Df.c T.Nt.h (Ar5 T) bR T.Nt.b .nil Ay (oV bF dE)))
  (Ak (GW bF Ar Jn)
  (Ao (AU (PW.pt (Gq (pB AhX bI Da) (Jk (D9 (Bx aL T.Df.c T.Nu.h (Ar7 T) bR T.Nu.b .nil Ay lO))))) (Ak (nG (D9 (Bx aL T.Df.c T.Nv.h (ArA T) bR T.Nv.b .nil Ay lO)) (oL hM))
  (mB4 (mDL lO))) AY)))))))
  (oL eU))),5)
 refine(56,vU fs.st,30,Z,o,n,ac,a,g,2,ok,fs,ha,oa,ae,λL ag ah H1 f1 ai aj=>(Wfb t Z o H a L g,(_,Dr [] g,ag,ah,n,ac,14,29,f1,ai,aj,λj x e=>by have:=Agr g [] j x e;simpa using this,2),5));rintro ak σ al ⟨path,bs,k,am,l,an,v4,rfl,rfl,m,ao,pi,p,B⟩;refine(mF5 pi.at_);rcases AsR bs with ap|⟨C,b,ap⟩
 .subst ap;have aq:=tY (mAB pi.len);subst aq;refine Az ((mAC 0),λD ar=>af D _ (λc u e as=>?_) ?_)
  .have:=(uX ao as).1;rw[Ah (AR this ar)];exact this
  rw[Af,<-B];rfl
 rw[Atk] at ap;subst ap;obtain⟨G,r,u,rfl⟩:∃G r u,path=G++[(r,u,)]:=by
  rcases AsR path with h|⟨q,x,h⟩
  .have:=pi.len;rw[h] at this;simp at this
  exact(q,x.1,x.2,by rw[h,Atk])
 have au:oO (!aYa.isEmpty):=aC;rw[au];obtain⟨av,aw,ax,ay⟩:=pi.Ga;obtain⟨I,az,sa,a0,a1,used,J,a2,a3,a4,a5⟩:=id aw;have a6:=m.st;have a7:=vU a6;obtain⟨oq,a8,a9,_⟩:=ok.Di.of;have ba:pC aYa[(nF aCe.map).length - 1]? bW:=by rw[As7,Asn,AuX,Asi,AsD,At6];exact aJC
 have bb:=Xz ax.nd ax.lt;have bc:aCe.length<=65:=by rw[pi.len,Asi,AsD,<-p.Ga];have:=ok.sl;show r.length+1<=65;omega
 refine Au (λbd H'=>∃be,be<mHA Gc (G++[(r,u,)])/\Wfb t Z o H a L g be bd H',λbd H' q=>q,(16,L,36,mN pi.at_,On (x:= bW) aC ba,(0,141,28,a7,31,mHy a6,59,T.RO,2,Z.OA,0,wN a6 a8,79)));by_cases hu:u=Z.st.length
 .have hd:mQ (u:Int)=V.int (((nF oq.map).length:Nat):Int):=(by rw[ArX,a9,hu]);rw[mU hd];refine Au (0,pL pi.at_,L,_,bW,29,pi.at_,ba,5);have bf:(nF aCe.map).dropLast=C.map V.ref:=aC;rw[bf];rw[hu] at B⊢;exact(_,Aro,G,C,k,am,l,_,v4,29,m.CA pi.mL _,ao.trans (pi.mL.kp _),pi.pop,p.pre,by rw[<-Ars (r:=r)];exact B)
 have hd:¬mQ (u:Int)=V.int (((nF oq.map).length:Nat):Int):=by
  rw[ArX,a9];intro e;injection e with e
  omega
 rw[mS hd];have M:mHx u:=aA;refine Az (56,a7,178,141,Z,b,r,u,u,I,az,140,2,ok,a6,J,ax,M,λv bg s2 bh=>(0,b,_,I,3,qA J.at_,74,T.Pn,2,8,I,_,qA J.at_,aDc,5));rcases bh with⟨bi,rfl⟩|⟨bj,bk,N,O,rfl,bl,rN,bm,bo,g1,bp,bn,U,bq,br,bt,bu⟩
 .have g2:Gw Z.X.F k al l k bg l:=rB s2;have bv:=(pi.gw g2).X0 (u':=u+1) aA (J.same s2) a2 a3 a4 a5;have Y:=av.same s2;refine(0,30,Az (Az (_,Arp M bi,G++aJE,aCe,k,am,l,8,(m.same s2).CA Y _,aYb.trans (Y.kp _),bv,aYc,by rw[<-Art M bi];exact B)))
 obtain⟨f2,bw,g2⟩:=m.take s2 U bn.at_;have bx:mLp bg O:=λc u e hu z=>(mLq bn.at_);have bz:GL t Z bg (mCP k O) O fD 0:=(bl,rN,bm,bo,g1,bp,bn,by rw[uZ bx bn.row];exact m.un _ bq,by rw[uZ bx bn.IZ];exact m.un _ br,by rw[uZ bx bn.c0];exact m.un _ bt,by rw[uZ bx bn.c1];exact m.un _ bu)
 have bv:=pi.gw g2;obtain⟨Y,_,_,_⟩:=bv.Ga;have b0:∀c,k c=none->(∃w,al c=mB w)->Ci k O (sR O) c=none:=λc h (b1,hw)=>(wG Cj (λz=>by rw[z,U] at hw;cases hw) h);have b2:=bv.X0 (u':=u+1) aA (J.same s2) (mHB a2 J.row) (mHB a3 J.IZ) (mHB a4 J.c0) (mHB a5 J.c1);have b3:=f2.CA Y aJF;have b4:=bz.CA (u:= aJF) Y (λz=>by rw[z,J.at_] at U;cases U);have b5:C6 t Z.X (Aa bg b aJF) (mCP k O) l O:=bw.Aa;have b6:=aYb.trans (Y.kp aJF);have b7:O∉C++[b]:=λhm=>by obtain⟨i,b8,e⟩:=Asy hm;obtain⟨_,_,_,_,_,_,_,b9,_⟩:=pi.el i O _ (mBo b8 e) (mJ (uJ pi.len b8));have:=b9.at_;rw[U] at this;cases this
 generalize Ci k O (sR O)=ca at b2 b3 b4 b5 b6;refine aIb;obtain⟨cb,cc,cd,ce,cf,cg,ch,cj,ck,cl,cm⟩:=id b4;have cn:r++[u]≠[]:=aC;have co:fD.length<=Z.ms:=(by rw[Asi,AsD];omega);refine(56,vU b3.st,30,Z,ca,am,l,O,fD,60,cb,cc,cd,ce,cf,cg,2,ok,b3,ch,N,cn,co,λy n4 cp cq cr f4 cs ct=>aAC);have cu:=b2.gw cs;have cx:=(b5.gw cs ch.at_).2;have cy:=b4.gw b5 cs;have cz:=b6.trans cs.kp
 cases y with
 |false=>
  refine Az (_,Arq M bj bk,G++aJE,aCe,cp,n4,cr,8,f4,cz,cu,aYc,5);rw[<-Arv M bj bk (λx t' hx c0 hxm=>?_)]
  .exact B
  refine ct rfl x t' hx ?_ c0;rcases pN hxm with rfl|hxm
  .exact N
  obtain⟨c1,c2,_⟩:=Xx hxm N.nd N.lt;exact(c1,c2)
 |true=>
  obtain⟨c3,c4,c5,c6,c7,c8,c9,da,db,dc,dd⟩:=id cy;refine Au (56,vU f4.st,30,Z,cp,n4,cr,O,fD,60,c3,c4,c5,c6,c7,c8,2,ok,f4,c9,N,cn,co,λn5 de df dg dh di=>aAC);have dj:=cu.gw di;have dk:=cy.gw cx di;have dm:=cz.trans di.kp
  cases dn:sc Z fD with
  |true=>
   obtain⟨dp,dq,dr,ds,dt,du,dv,dw,dx,dy,dz⟩:=id dk;refine Au (0,O,_,dp,3,dv.at_,74,T.NF,2,af dq df (λc u e as=>(uX dm as).1) ?_);rw[dv.row,<-B,Arw M bj bk dn];rfl
  |false=>
   refine Az (mK0 dj.at_ L);have d0:mQE C b O:=aC;rw[d0];refine(_,Arr M bj bk,mLi G,aCe++[O],de,n5,dg,8,dh.CA dj.mL _,dm.trans (dj.mL.kp _),dj.push ((cx.gw di c9.at_).2) dk N b7 (λz=>by have:=pi.at_;rw[<-z,U] at this;cases this),(Ja.snoc (x:=(r,u+1,)) p.pre p.Ga).snoc ?_,5)
   .have d1:=p.Ga;rw[Asi,Asi,d1];rfl
   rw[<-Arx M bj bk dn];exact B
theorem ArG(ok:m.Ok):aJp:=by
 have a:∀(i:Nat)(f:dD),cV.length=AM aFS:=by
  intro i f
  induction f with
  |nil=>rfl
  |cons w f b=>
   rw[Asn,C7,<-b];show(aCi++cV).length=_;rw[Asi];unfold CD;rw[ArX,As4]
 have c:∀(fs:jJ)(i:Nat),(mBc i fs).length=AM (fs.map λf=>AM aFS):=by
  intro fs
  induction fs with
  |nil=>intro _;rfl
  |cons f fs b=>
   intro i;rw[Asn,C7,<-sS b,<-a i f];show(cV++mBc (i+1) fs).length=_;rw[Asi]
 have d:aU.length<=255:=by show(mBc 0 m.feet).length<=255;rw[c];exact ok.size
 omega
theorem M4:(DJ h n).testBit p=(n.testBit p||(decide (p>=h)&&n.testBit (p - h))):=by unfold DJ;rw[Ate,Atr]
theorem ArH(h:nI (aJ.B2 n).testBit p):nI aCb.testBit p:=by
 have a:aCb=DJ bX aDS:=rfl;have b:aJ.Ej=DJ bX kY:=rfl;have c:∀i,kY.testBit i=true-> aDS.testBit i=true:=λi d=>by
  rw[AsE,Aui,Aup];rcases Atq i aU.length with q|q
  .exact q
  have e:kY<2 ^ aU.length:=(mQq Du);rw[mKh e q] at d
  cases d
 have f:(aJ.Ej).testBit p=true-> aJq=true:=λh=>by rw[b,M4,Atx,AsF] at h;rw[a,M4,Atx,AsF];grind
 by_cases g:n=0
 .subst g;have j:aJ.B2 0=aJ.Ek^^^aJ.Ej:=rfl;rw[j,AuR] at h;show(aJ.Ek).testBit p=true
  cases hb:(aJ.Ek).testBit p with
  |true=>rfl
  |false=>
   cases hc:(aJ.Ej).testBit p with
   |true=>have:=f hc;rw[show aCb=aJ.Ek from rfl,hb] at this;cases this
   |false=>rw[hb,hc] at h;cases h
 by_cases n1:n=1
 .subst n1;exact f h
 unfold BR.B2 at h;rw[mM g,mM n1] at h;exact h
theorem ArI(b:aNw){n c w p:Nat}(hm:c<=1)(hw:jK)(h:nI (GB aJ S n c w).testBit p):nI aCb.testBit p:=by
 obtain⟨q,_,_,_,d,ha⟩:=(J6 aJ S b n c w p hm hw).mp h
 cases e:Cq w aDh with
 |nil=>exact nL e d
 |cons s r=>
  rw[e] at ha;obtain⟨y,hy,_⟩:=ha;exact ArH hy.1
theorem X1:∀s:aC3,(cR).2.length<=s.length
 |[]=>aF
 | .cons c::r=>by have:=X1 r;simp only[Bs,List.length_cons];omega
 | .vowel g::r=>by have:=X1 r;simp only[Bs,List.length_cons];omega
theorem ArJ(ok:hN)(hk:mAY k)(m:Nat):zK (eV.sh m).A2.length:=by
 have a:=ok.le _ (PJ hk);have b:eV.DF.A2.length<= fX.length:=by show(mDP DU fX).A2.length<=_;unfold DU;rw[ArX];exact AsV (X1 _) (Adw 0 _)
 have c:eV.CO.A2.length<= eV.DF.A2.length:=AeC fX;unfold Wd.sh;split<;>omega
def NR:HO->Prop
 | .Ag _ _ []=>False
 | .Ag _ _ ((k,_)::_)=>k≠"stock"
 |_=>True
def Kr(H H':Hp):Prop:=∀c u,H c=aM ->NR u-> eJ=aM
theorem Kr.of(s:aO):Kr H H':=λc u e _=>sC s
theorem Kr.trans(a:Kr H H1)(b:Kr H1 g):Kr H g:=λc u e n=>b c u aOv n
theorem Kr.Aa(hp:H p=mB g)(i:¬NR g):Kr H (mEm p):=λc v e n=>by rw[Ah (λz=>by rw[z,hp] at e;rw[<- aAm] at n;exact i n)];exact e
theorem DE.kr(h:wK q sh)(k:aDG):DE t H' q sh:=by obtain⟨d,b,g,i⟩:=h;exact(d,b,mEK k g ("lead":Str),tN k i)
theorem HN.kr(h:aOA)(k:aDG):HN t H' q S i:=by obtain⟨dx,sh,g,j,M,a1,a2,s,u,v⟩:=h;exact(dx,sh,g,j,M,mEK k a1 ("vowel_first":Str),tN k a2,s.kr k,u.kr k,v)
theorem JF.kr(h:mHh H)(k:aDG):JF t H' SA S:=by obtain⟨g,j,s,u⟩:=h;exact(g,tN k j,s,λi q e=>(u i q e).kr k)
theorem Qk.kr(h:mQw H)(k:aDG):Qk t H' p dx m st Aq ms A7 S so SA OA:=by obtain⟨oq,g,i,s⟩:=h.of;exact(mEK k h.at_ ("most":Str),h.Xu.kr k,(oq,tN k g,i,λj q e=>(s j q e).kr k),h.AH,h.Bl,h.Ql,h.ms2,h.ms3,h.sl,h.Ol,h.BQ)
theorem F9.kr(h:F9 H c cuts)(k:aDG):F9 H' c cuts:=by obtain⟨g,i,q,s⟩:=h;exact(g,tN k i,q,λj p x a b=>tN k (s j p x a b))
theorem KM.kr(h:KM H v f)(k:aDG):KM H' v f:=by obtain⟨g,i,j,q,s⟩:=h;exact(g,i,tN k j,tN k q,tN k s)
def ArK(K:PySem.W.Frag)(t:Aw):Sp:=λvs H Q _=>∃(Hs:Hp)(p dx mp L:Addr)(m:Bi)(st:bV)(Aq:Nat),vs=aXU /\ aFq /\Hs p=none/\H p=rM t.CB/\mCf Hs/\m.Ok/\Hs L=zO st/\ hN /\st.length<=64/\Aq<=12/\ aJv /\
 ∀(Z:Rf)(o:Bj)(H':Hp),Z.p=p->Z.m=m->Z.st=st->Z.Aq=Aq-> iO ->AO t Z.X H' o 0 []->mGi Hs->(∀c u,Hs c=aM ->o c=none)-> cU
theorem Agt:AD ["self","measure","texts","most","outlook"] aCR (A0 AaB):=aG
theorem ArL(T:aD):A4 P w K mg base A9 8 t.Np t.Ace aCR (ArK K t):=by
 refine mBZ T.Np.F.ok Agt
 .obtain⟨Hs,p,dx,mp,L,m,st,Aq,rfl,_⟩:=h;rfl
 obtain⟨Hs,p,dx,mp,L,m,st,Aq,rfl,ab,g,hp,hm,j,ac,l,ae,af,ag,ah⟩:=h;have n:=ArG j;refine(_,(Ak (oF (Dc T.EN.k (Ark T) dR rfl T.EN.m T.Nn.b .nil Ay (Ad aQ aH2)))
  (Ak (oF (Dc T.B6.k (AqJ T) dR rfl T.B6.m T.Nl.b .nil Ay dU))
  (Ak (qE Agt.nd (Dc T.Em.k (Aqs T) dR rfl T.Em.m T.Ng.b .nil Ay (Ad aX (uV kQ))))
  (Ao (oF (Dc T.B_.k (Aqe T) dR rfl T.B_.m T.MY.b .nil Ay (Ad aX (oV kQ bI)))))))),5)
 refine(40,λSP dS ai aj ak=>?_);have al:Ab H (Aa (qL H dS SP) SP (.Ag t.Cp dS [])):=wR aj ai;refine(SP,dS,mp,L,m,st,Aq,190,(hm.same ab).same al,j,nP al ab ac,l,ae,ag,λms A7 S so SA OA H1 am an=>fW);have s1:Ab H H1:=am.JE al (mBb ai);have ao:=qS hp;refine(mQF ao T.Jt bB);rw[show Cn "stock" (nC SP) []=(aYd:dO) from rfl];have ap:Kr H1 (nN H1 aJG):=Kr.Aa ao (λz=>z);have aq:wO H1 aJG:=Af;have ar:Ab Hs (nN H1 aJG):=λc u e=>by rw[nZ g];exact nP s1 ab e
 generalize Aa H1 p aJG=as at ap aq ar;refine(0,λPA o au av aw=>?_);have ax:Ab as (Aa (qL as o PA) PA (.Ag t.A_ o [])):=wR av au;refine(PA,o,mp,m,190,(hm.same ar).same ax,j,n,λd f ay az q a0 a1 a2 a3 a4 a5=>fW);have s3:Ab as q:=a0.JE ax (mBb au);have a6:=rY aq;refine(mQF a6 T.NG fV);rw[show Cn "places" (nC PA) aYd=((mLs mF):dO) from rfl];have y:Kr q (nN q aJH):=Kr.Aa a6 (λz=>z rfl);have B:mED q aJH:=Af;have a7:Ab Hs (nN q aJH):=λc u e=>by rw[nZ g];exact nP s3 ar e
 generalize Aa q p aJH=C at y B a7;have G:=((an.kr ap).kr (Kr.of s3)).kr y;have a8:=mEK y a1 ("half":Str);have a9:=a2.kr y;have ba:=tN y a3;have I:aOB:=λi J=>by obtain⟨k,hk,e⟩:=an.BQ i J;rw[e];exact(KI l hk,ArJ l hk)
 have bb:=an.Ql;refine(17,B,67,17,B,70,G.at_,59,T.RN,2,17,B,70,G.at_,171,2,λO M bc bd be=>?_);have bf:Ab C (Aa (qL C M O) O (.Ag t.DD M [])):=wR bd bc;refine(C,O,M,PA,SA,aJ,S,ms,2,bf,bc,Af,AfM (t:=t) n a8 a9 ba,G.Xu,I,4,λVA bg N bh bi bj bk bl bm bn=>fW);have s5:Ab C N:=bi.JE bf (mBb bc);have U:=vQ B;have bo:=G.kr (Kr.of s5);refine(17,U,67,17,U,70,bo.at_,59,T.RN,30,λF dF hF bp bq=>?_);have br:Ab N (Aa (qL N dF F) F (.Ag t.AV dF [])):=wR bp hF;refine(F,dF,PA,SA,O,M,mF VA,bg,190,(λz=>by rw[z,bj] at hF;cases hF),mC br bj,bk,λD bs bt=>fW);have bu:nA N D:=BL br bt;have bv:p≠F:=AR U hF;have bw:p≠D:=AR U bu;have Y:Ab N (Aa aJI F aJJ):=λc u e=>by rw[nZ hF,nZ bu];exact mC br e
 have bx:wW aJI F aJJ:=Af;have bz:oB (Aa aJI F aJJ) D iD:=(mA8 bs);generalize Aa aJI F aJJ=b0 at Y bx bz;refine(97,qY U,T.Df.c,T.Vw,aAM,5);rw[show Cn "finisher" (nC F) (mLs mF)=IY SP PA F from rfl];have b1:Kr N (mBg N):=Kr.Aa U (λz=>z rfl);obtain⟨tw,b2⟩:=AqM n a5;have b3:=(Kr.of s5).trans b1;have b4:=mEK b3 a8 ("half":Str);have b5:=bo.kr b1;have b6:∀c,N c=none->c≠p->(mBg N) c=none:=λc h hc=>(oN hc h);have b7:∀a∈ iM,DR a:=λa ha=>by obtain⟨x,hx,rfl⟩:=aAN;obtain⟨i,J,e⟩:=Asy hx;have:=(I i J).1;unfold AH at this;rw[Asv,mJ J,Option.getD_some,e] at this;exact this
 have fw:DT t aYe:=
  (by show ms<=12;omega,AfM (t:=t) n b4 (a9.kr b3) (tN b3 ba),(o,_,ay,az,b4,2,tN b3 (tN y a4),λp hp=>(rC b2).1),λp hp=>(rC b2).2,b5.Xu,(bh,tN b1 bl,bm,λr v e=>(bn r v e).kr b1),λi J=>(I i J).1,b5.Ol,b5.sl,λi b8 J=>(I i J).2 b8,λr b8 b9 ca cb cc cd=>ArI b7 cb cc cd)
 have ce:Ab (mBg N) (mBg b0):=λc u e=>by
  by_cases hc:c=p
  .subst hc;rw[Af] at e⊢;exact e
  rw[gW] at e⊢;exact qY e
 have cf:Ab Hs (mBg b0):=λc u e=>by rw[nZ g];exact mCH s5 a7 e
 have cg:∀c u,(mBg N) c=aM ->(λc=>if c=F\/c=D then sR F else none:Bj) c=none:=λc u e=>by
  show aYf=none;rw[Asa];rintro(z|z)
  .rw[z,b6 F hF (Asr bv)] at e;cases e
  rw[z,b6 D bu (Asr bw)] at e;cases e
 refine ah (aYe,p,m,st,Aq,ms,A7,so,dx,SP,dS,OA) (λc=>if c=F\/c=D then sR F else none) _ rfl rfl rfl rfl (fw,29,j,l,185,Af,b5) (5,mK aZ,5,mK dZ,4,Auw,ce,cg,λc e=>?_,9) cf aIP
 .rw[nQ bv];exact bx
 .rw[nQ bw];exact bz
 .show aYf=none;rw[Asa];rintro(z|z)
  .rw[z,nQ bv,bx] at e;cases e
  rw[z,nQ bw,bz] at e;cases e
 exact cg c u (by rw[nZ g];exact nP s5 a7 e)
theorem ArM(h:mCj 12):aPq.take r.length=r:=by
 apply AsJ;intro i;by_cases a:i<r.length
 .rw[Awo a];unfold Kgz1.padded;rw[ArY,AsY aA,AuU,Asv,mJ a];rfl
 grind
theorem ArN(ok:iO)(h:Rw Z b)(c:b.length<=Z.Aq):mQG b=KU Z b:=by
 have e:mQG b=(Kgz2.rows Z.st.length Z.Aq).find? (λr=>(b==[]||Kgz2.before b r)&&sc Z r):=by unfold Kgz2.first;rw[ArX];rfl
 rw[e,AnY _ _ _ _ c h.lt h.nd];refine Arn ok.Di.Ql c h.lt h.nd λx d f g i=>?_;refine ok.Di.ms3 x d f g ?_;have:=Aoe ok.F_ (x.map (Wk Z.st)) (λa ha=>by
  obtain⟨k,hk,rfl⟩:=aAN;exact KI ok.Fx (f k hk)) (λa ha=>by
  obtain⟨k,hk,rfl⟩:=aAN;exact AeC _) (((WK ok.F_ ok.Fx x f).mp i).2)
 rw[AsB] at this;exact this
theorem Agu(ok:iO)(h:Rw Z a)(b:a.length<=Z.Aq)(e:KU Z a=mB r):mCj 12:=by have hm:=Awf e;rw[Xw Z.st.length Z.ms Z.Aq ok.Di.Ql,AtO] at hm;have:=(Agd b h.lt h.nd hm.1).2.2;have:=ok.m12;omega
theorem ArO(h:nI G6 st):hN /\st.length<=64:=by
 unfold G6 at h;simp at h;obtain⟨⟨_,a⟩,b,h4⟩:=h;refine((λx hx e=>?_,dY,λx hx=>AsL.mpr (oY h4)),a)
 .have:=oY b;unfold FW at this;rw[e] at this;simp at this
 have:=oY b;unfold FW at this;grind
theorem Tn:AD ["most","measure_numbers","after","stock","measure","texts","row"] aHi (A0 AaX):=aG
theorem ArP(aa:aJv)(T:aD):A4 P w K mg base A9 57 t.Jr t.R7 aHi (Wl K):=by
 refine T.Jr.F.ok Tn cM (λab A outer s H vs Q E b h=>?_)
 .obtain⟨Aq,m,a,L,d,f,st,rfl,_⟩:=h;rfl
 obtain⟨Aq,m,a,L,d,f,st,rfl,ac,ha,ae,af,ag,ah,ai,k⟩:=h;obtain⟨aj,ak,al⟩:=T.V4;obtain⟨am,an,ao⟩:=T.Akv;obtain⟨ap,aq,ar⟩:=T.AcK;obtain⟨as,au,av⟩:=T.Akq;refine(_,(Ak (qE Tn.nd (mN4 dR))
  (Ak (nG (mAU bI) (mCh ak al))
  (Ak (sA Tn.nd (Bb (Anr T) dR rfl T.LQ.m T.LQ.F.kp T.LQ.b .nil Ay aHE))
  (Ak (nG (PW.pt (Id aHZ (JX (mJl aL aML)))) (mCh aq ar))
  (Ak (nG (Ff (D9 (Bb (An0 T) dR rfl T.LR.m T.LR.F.kp T.LR.b .nil Ay (Ad aW (oV (uD pv 5) aL))))) (mCh au av))
  (Ak (tG Tn.nd (Bx (Dc T.Df.k (ArL T) dR rfl T.Df.m T.Np.b .nil Ay (Ad bI (oV bQ aL))) T.Df.c T.Nq.h (ArF T) dR T.Nq.b .nil Ay kH))
  (mD0 (vN (tZ (uD pv 6)) cC)))))))),5)
 refine(0,m,aH7,2,by rw[<-HI];exact ac,by rw[ArX];exact af,λn aw=>?_,λax H1 s1 g=>?_)
 .obtain⟨x,_,rfl⟩:=pA aw;omega
 rw[Mg] at g;have j:=T1 d;have FN:∀(i:Int)(q:Hp),Ab H q->mLt d=Kgz2.say i->(iv (([]:aB).take i.toNat)=([]:aK))->∀D,q D=none->Q hL (nE q D [eZ]):=λi q ay y _ D B=>by rw[y] at k;refine k D _ (oR ay B) (ay.free B) ?_;rw[Af];unfold KA Kgz2.say;simp
 cases hm:Je d with
 |none=>
  rw[hm] at g j;obtain rfl:ax= .Ax:=g;have y:mLt d=Kgz2.say (-22):=(mN3 j);exact(0,30,Au (90,λD B=>FN (-22) H1 s1 y rfl D B))
 |some az=>
  rw[hm] at g j;obtain⟨mp,rfl,a0⟩:=g;have C:mLt d=if aVi=false then Kgz2.say (-23) else if Aq<f.length\/(f.length≠0/\mJW st.length f=false) then Kgz2.say (-24) else match Kgz2.first (E2 az) gU Aq f with
   |none=>Kgz2.say 0
   |some r=>((r.length:Nat),aPq):=by show aM4=_;rw[j];rfl
  refine(mCi (0,L,st,2,mD4 s1,ah,λx hx=>(oY ai).1,λv a1 s2 G=>?_));have I:=lS;rw[An6 (λl a2=>(ai l a2).2)] at C;unfold P6 at G
  cases J:G6 st with
  |false=>
   rw[J,bS] at G;subst G;rw[J,At5,bE] at C;exact(0,30,Au aPr)
  |true=>
   rw[J,bE] at G;obtain⟨a3,rfl,a4,a5⟩:=G;rw[J,AtS] at C;refine(mCi aW2);by_cases a6:1<=Aq
   .rw[xY mAM];refine aEK;by_cases M:Aq<=12
    .rw[mU (by omega:(Aq:Int)<=12)];rw[mU (a6,M),bS] at C;refine Az (16,a3,0,uU a5,77,f,st.length,Aq,by rw[ArX];rfl,nD I ha,M,λa7 s3=>aAC);have N:=mX I s3
     cases O:J2 st.length Aq f with
     |false=>
      rw[mK ((uR Aen).mpr O)] at C;exact Au (90,λD B=>FN (-24) a7 N C rfl D B)
     |true=>
      rw[mM (λz=>by rw[(uR Aen).mp z] at O;cases O)] at C;have U:f.length<=Aq/\f.Nodup/\∀x∈f,x<st.length:=by unfold J2 at O;simp at O;exact O
      obtain⟨a8,a9⟩:=ArO J;refine Az (40,λp dp hp ba bb=>(a7,p,dp,mp,a3,az,st,Aq,2,wR ba hp,hp,Af,(a0.same s2).same s3,T2 hm,rY a5,a8,a9,M,aa,λZ o bc bd be e3 bf ok fs s4 bg=>fW));subst bd be e3 bf;have bh:=mC N ha;have Y:Rw Z f:=(U.2.1,U.2.2);refine(Z.p,Z.dx,0,vU fs.st,30,Z,o,60,[],a,f,2,ok,fs,vJ bh,mC bg bh,Y,λbi bj keep bk=>?_);have bl:Ab H bj:=λc u e=>keep c u (nP s4 N e) (bg c u (mC N e));rw[(ArN ok Y U.1)] at C;have hlen:mBq mLr f 12:=by
       cases hw:KU Z f with
       |none=>exact aR
       |some r=>exact aYg
      refine(0,bi,0,uU bk,jP,λbm bn=>?_);have bo:Ab bj (Aa bj bm (.Ac [mQH mE (mLr f)])):=mP bn;refine(0,bm,bi,8,Af,mC bo bk,AL (mBH AsD),λD B=>?_);refine k D _ (oR (mX bl bo) B) ((mX bl bo).free B) ?_;rw[Af,C]
      cases hw:KU Z f with
      |none=>rfl
      |some r=>
       unfold KA;show oZ HO.Ac (mQH mQ r::iv r)=some (HO.Ac (mQ ((r.length:Nat):Int)::iv (aPq.take ((r.length:Nat):Int).toNat)));rw[AtN,ArM aYg,ArX]
    rw[mS (by omega:¬(Aq:Int)<=12)];rw[mS (λz=>M z.2),bE] at C;exact aPr
   rw[xY mAN];rw[mS (λz=>a6 z.1),bE] at C;exact Az (0,aPr)
end
end Vp
namespace Vp
open PySem PySem.Spec L2 PySem.W
theorem Agv:∀{ns:bG},aMf ->ci jG=ns
 |[],_=>rfl
 |z::r,h=>by
  show((z.toNat:Nat):Int)::ci (uF Int.toNat)=z::r;rw[Agv λy hy=>pH h y hy,Int.toNat_of_nonneg (h z AsG)]
theorem ArQ(K:PySem.W.Frag)(H:Hp)(a:Addr)(ns:bG)(Av:NI ns)(b:iC):Wm K cP H aYh λ_ _ _=>False:=by obtain⟨c,d,f⟩:=Av;have e:=Agv d;have g:jG.length<=30000:=(oD ArX c);have h:nI PyKgz.answers_asked (ci jG):=(oD e f);obtain⟨cv,g1,g2,g3,i⟩:=Anl jG g h;rw[e] at i;refine(a,jG,_,cv,2,5,g,g1,g2,g3,λD H' _ _ j=>(D,2,by rw[j,i]));rw[HI];show tV ((ci jG).map V.int);rw[e];exact b
end Vp
theorem PySem.Challenge.cw_versefeet_s01_answers_holds : PySem.Challenge.rw_versefeet_s01_answers.Holds := by
 exact Vp.early Vp.Wm (λK H a ns h g=>Vp.ArQ K H a ns h g) λw K mg base t hc T=>Vp.Ana (Vp.ArP hc T) T
